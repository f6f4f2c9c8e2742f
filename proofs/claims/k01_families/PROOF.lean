import PyProof.Rows.All
import Wide.All
import OpenK.AllK
import Wide.FinOn
import HandS.ForMost
import HandS.Codes
import HandS.IsInst
import PyProof.ReprReads
import PyProof.ReprRoads
import HandS.Style
import KE.KRevSl
import HandS.TupAny
import PyProof.ReprLen
import PyProof.P3Eq
import PyProof.ReprBulk
import HandS.Conv
import KE.GoesMore
import HandS.Lambda
import HandS.Exc
import HandS.ExcOwn
import HandS.ExcInit
import HandS.WordsExc
import HandS.SlotsOwn
import PyProof.InstSpecial
import PyProof.InstNe
import PyProof.EqAt
import PyProof.NeKinds
import HandS.Base
import HandS.Call
import HandS.ExcField
import HandS.EndBits
import KE.KNestM
import HandS.TupMul
import HandS.ExcValue
import KE.KExcInit
import PySem.Challenge.RW_growthkinds_k01_whole_families_made
set_option Elab.async false
set_option maxRecDepth 100000
/-! The draws: the state m (cells, left, at), and one draw. -/
namespace G
open PySem L2 PySem.Spec PyProof.Rows

theorem k1 : ¬ (("cells" : Str) = "left") := by decide +kernel
theorem k2 : ¬ (("cells" : Str) = "at") := by decide +kernel
theorem k3 : ¬ (("left" : Str) = "at") := by decide +kernel
theorem k4 : ¬ (("left" : Str) = "cells") := by decide +kernel
theorem k5 : ¬ (("at" : Str) = "cells") := by decide +kernel
theorem k6 : ¬ (("at" : Str) = "left") := by decide +kernel
theorem ki {a b : Str} (h : ¬ a = b) : ¬ ((Sum.inr a : Key) = Sum.inr b) := fun e => h (Sum.inr.inj e)

/-- the pairs of m -/
def mK (c l : Addr) (t : Int) : List (Key × V) := [(Sum.inr "cells", .ref c), (Sum.inr "left", .ref l), (Sum.inr "at", .int t)]
theorem v_cells (c l : Addr) (t : Int) : valV (mK c l t) (Sum.inr "cells" : Key) = some (.ref c) := by
  unfold mK
  exact valV_pos rfl
theorem v_left (c l : Addr) (t : Int) : valV (mK c l t) (Sum.inr "left" : Key) = some (.ref l) := by
  unfold mK
  rw [valV_neg (ki k1)]
  exact valV_pos rfl
theorem v_at (c l : Addr) (t : Int) : valV (mK c l t) (Sum.inr "at" : Key) = some (.int t) := by
  unfold mK
  rw [valV_neg (ki k2), valV_neg (ki k3)]
  exact valV_pos rfl
theorem p_left (c l l' : Addr) (t : Int) : putK (mK c l t) (Sum.inr "left" : Key) (.ref l') = mK c l' t := by
  unfold putK mK
  simp [k1, k6]
theorem p_at (c l : Addr) (t t' : Int) : putK (mK c l t) (Sum.inr "at" : Key) (.int t') = mK c l t' := by
  unfold putK mK
  simp [k2, k3]

/-- the state of the draws stands at m; what the caller holds (G) stands apart from it -/
structure Ms (G H : Hp) (m c l : Addr) (cs ls : List Int) (t : Int) : Prop where
  sm : Same G H
  gm : G m = none
  gl : G l = none
  gc : G c = none
  hm : H m = some (.dK (mK c l t))
  hc : H c = some (.lst (cs.map V.int))
  hl : H l = some (.lst (ls.map V.int))
  cl : c ≠ l
  nc : cs.length ≤ 1000
  nl : ls.length ≤ 1000
  ge : ∀ x ∈ ls, 0 ≤ x
  t0 : 0 ≤ t
def Mst (G H : Hp) (m : Addr) (T : Int) : Prop := ∃ (c l : Addr) (cs ls : List Int) (t : Int), Ms G H m c l cs ls t ∧ t ≤ T

section
variable {G H H' : Hp} {m c l : Addr} {cs ls : List Int} {t T : Int} {p : Addr} {o o' : HO}
theorem Ms.ml (S : Ms G H m c l cs ls t) : m ≠ l := ne_of S.hm S.hl (by intro z; cases z)
theorem Ms.mc (S : Ms G H m c l cs ls t) : m ≠ c := ne_of S.hm S.hc (by intro z; cases z)
theorem Ms.dLeft (S : Ms G H m c l cs ls t) : DGet H m (.str "left") (some (.ref l)) := by
  have q := DGet.k (k := (Sum.inr "left" : Key)) S.hm
  rw [v_left] at q
  exact q
theorem Ms.dCells (S : Ms G H m c l cs ls t) : DGet H m (.str "cells") (some (.ref c)) := by
  have q := DGet.k (k := (Sum.inr "cells" : Key)) S.hm
  rw [v_cells] at q
  exact q
theorem Ms.dAt (S : Ms G H m c l cs ls t) : DGet H m (.str "at") (some (.int t)) := by
  have q := DGet.k (k := (Sum.inr "at" : Key)) S.hm
  rw [v_at] at q
  exact q
/-- more objects, all kept -/
theorem Ms.same (S : Ms G H m c l cs ls t) (s : Same H H') : Ms G H' m c l cs ls t :=
  ⟨S.sm.trans s, S.gm, S.gl, S.gc, s _ _ S.hm, s _ _ S.hc, s _ _ S.hl, S.cl, S.nc, S.nl, S.ge, S.t0⟩
theorem same_new {H : Hp} {p : Addr} {o : HO} (h : H p = none) : Same H (upd H p o) := fun b u e => by
  rw [upd_ne (ne_of_none e h)]
  exact e
theorem Ms.junk (S : Ms G H m c l cs ls t) (h : H p = none) : Ms G (upd H p o) m c l cs ls t := S.same (same_new h)
/-- a new object, held by the caller -/
theorem Ms.grow (S : Ms G H m c l cs ls t) (h : H p = none) : Ms (upd G p o) (upd H p o) m c l cs ls t := by
  have nm := ne_of_none S.hm h
  have nl := ne_of_none S.hl h
  have nc := ne_of_none S.hc h
  refine ⟨fun b u e => ?_, by rw [upd_ne nm]; exact S.gm, by rw [upd_ne nl]; exact S.gl, by rw [upd_ne nc]; exact S.gc, by rw [upd_ne nm]; exact S.hm, by rw [upd_ne nc]; exact S.hc, by rw [upd_ne nl]; exact S.hl, S.cl, S.nc, S.nl, S.ge, S.t0⟩
  by_cases hb : b = p
  · subst hb
    rw [upd_same] at e ⊢
    exact e
  · rw [upd_ne hb] at e ⊢
    exact S.sm _ _ e
/-- what the caller holds is written -/
theorem Ms.write (S : Ms G H m c l cs ls t) (h : G p = some o') : Ms (upd G p o) (upd H p o) m c l cs ls t := by
  have nm : m ≠ p := fun e => by
    rw [← e, S.gm] at h
    cases h
  have nl : l ≠ p := fun e => by
    rw [← e, S.gl] at h
    cases h
  have nc : c ≠ p := fun e => by
    rw [← e, S.gc] at h
    cases h
  refine ⟨fun b u e => ?_, by rw [upd_ne nm]; exact S.gm, by rw [upd_ne nl]; exact S.gl, by rw [upd_ne nc]; exact S.gc, by rw [upd_ne nm]; exact S.hm, by rw [upd_ne nc]; exact S.hc, by rw [upd_ne nl]; exact S.hl, S.cl, S.nc, S.nl, S.ge, S.t0⟩
  by_cases hb : b = p
  · subst hb
    rw [upd_same] at e ⊢
    exact e
  · rw [upd_ne hb] at e ⊢
    exact S.sm _ _ e
theorem Mst.same (S : Mst G H m T) (s : Same H H') : Mst G H' m T :=
  let ⟨c, l, cs, ls, t, M, e⟩ := S
  ⟨c, l, cs, ls, t, M.same s, e⟩
theorem Mst.junk (S : Mst G H m T) (h : H p = none) : Mst G (upd H p o) m T := S.same (same_new h)
theorem Mst.grow (S : Mst G H m T) (h : H p = none) : Mst (upd G p o) (upd H p o) m T :=
  let ⟨c, l, cs, ls, t, M, e⟩ := S
  ⟨c, l, cs, ls, t, M.grow h, e⟩
theorem Mst.write (S : Mst G H m T) (h : G p = some o') : Mst (upd G p o) (upd H p o) m T :=
  let ⟨c, l, cs, ls, t, M, e⟩ := S
  ⟨c, l, cs, ls, t, M.write h, e⟩
theorem Mst.sm (S : Mst G H m T) : Same G H := let ⟨_, _, _, _, _, M, _⟩ := S; M.sm
theorem Mst.mono {T' : Int} (S : Mst G H m T) (h : T ≤ T') : Mst G H m T' :=
  let ⟨c, l, cs, ls, t, M, e⟩ := S
  ⟨c, l, cs, ls, t, M, Int.le_trans e h⟩
end

/-! ### lists of ints as data -/
theorem dp_ints {K : PySem.W.Frag} {H : Hp} : ∀ ns : List Int, DpAll K H (ns.map V.int) (ns.map PyData.int)
  | [] => .nil
  | n :: ns => .cons (.int n) (dp_ints ns)
theorem lay_ints : ∀ ns : List Int, PyData.canLayAll0 (ns.map PyData.int) = true
  | [] => by simp [PyData.canLayAll0]
  | n :: ns => by simp [PyData.canLayAll0, PyData.canLay0, lay_ints ns]
theorem depth_ints : ∀ ns : List Int, PyData.depthAll (ns.map PyData.int) ≤ 1
  | [] => by simp [PyData.depthAll]
  | n :: ns => by
    have h := depth_ints ns
    simp only [List.map_cons, PyData.depthAll, PyData.depth]
    omega
theorem shaped_ints (ns : List Int) : SeqAt.shaped (.list (ns.map PyData.int)) = true := by
  have h := depth_ints ns
  unfold SeqAt.shaped
  rw [Bool.and_eq_true, decide_eq_true_eq]
  refine ⟨?_, ?_⟩
  · simp only [PyData.canLay0]
    exact lay_ints ns
  · simp only [PyData.depth]
    omega
theorem eqv_nil : ∀ ns : List Int, PyData.eqv (.list (ns.map PyData.int)) (.list []) = ns.isEmpty
  | [] => by simp [PyData.eqv, PyData.eqvAll]
  | n :: ns => by simp [PyData.eqv, PyData.eqvAll]
/-- xs != [] of ints -/
def rNeE (K : PySem.W.Frag) : R2 := fun x y H Q => ∃ (a b : Addr) (ns : List Int), x = .ref a ∧ y = .ref b ∧ SqL K H a (ns.map V.int) ∧ SqL K H b [] ∧ Q (.bl (!ns.isEmpty)) H
section
variable {X : Cx}
theorem op_neE (hu : X.A.units + 64 < cLine) : OpR X (compareOp .NotEq) (rNeE X.K) := by
  intro pins s σ H x y v u Q I rx ry h
  obtain ⟨a, b, ns, rfl, rfl, ha, hb, q⟩ := h
  refine op_neD hu pins s σ H _ _ v u Q I rx ry ⟨.list (ns.map PyData.int), .list [], .lst ha (dp_ints ns), .lst hb .nil, shaped_ints ns, shaped_ints [], ?_⟩
  rw [eqv_nil]
  exact q
end
theorem hu64 {k : Nat} {A : Around} (r : Room k A) : A.units + 64 < cLine := by
  have := r.un
  omega
end G

set_option Elab.async false
set_option maxRecDepth 100000
namespace G
open PySem L2 PySem.Spec PyProof.Rows
theorem at0 {x : Int} {xs : List Int} : atI ((x :: xs).map V.int) 0 = some (.int x) := atI_nat (j := 0) rfl
theorem ix0 {x : Int} {xs : List Int} : ixN ((x :: xs).map V.int).length 0 = some 0 := by
  unfold ixN
  rw [if_pos (by decide), if_pos (by rw [List.length_map, List.length_cons]; omega)]
  rfl
theorem cut1 {x : Int} {xs : List Int} : cutV ((x :: xs).map V.int) (some 1) none = xs.map V.int := by
  have e : HT.sIx ((x :: xs).map V.int).length 0 (some 1) = 1 := by
    unfold HT.sIx
    rw [List.length_map, List.length_cons]
    show (if (1 : Int) < 0 then _ else min 1 (xs.length + 1)) = 1
    rw [if_neg (by decide)]
    omega
  unfold cutV
  rw [e]
  show (xs.map V.int).take _ = _
  rw [HT.sIx_none]
  refine List.take_of_length_le ?_
  rw [List.length_map, List.length_map, List.length_cons]
  omega
theorem mod_at {xs : List V} {j : Int} (h0 : 0 ≤ j) (h1 : j < xs.length) : ∃ v, atI xs j = some v ∧ v ∈ xs := by
  have hn : j.toNat < xs.length := by omega
  refine ⟨xs[j.toNat], ?_, List.getElem_mem hn⟩
  have q := atI_nat (xs := xs) (j := j.toNat) (v := xs[j.toNat]) (by simp [hn])
  rw [Int.toNat_of_nonneg h0] at q
  exact q
theorem Ms.left' {G H : Hp} {m c l q : Addr} {cs ls ls' : List Int} {t : Int} (S : Ms G H m c l cs ls t) (hG : G q = none) (hq : H q = some (.lst (ls'.map V.int))) (nq : q ≠ m) (nc : c ≠ q) (hn : ls'.length ≤ ls.length) (hg : ∀ x ∈ ls', 0 ≤ x) : Ms G (upd H m (.dK (mK c q t))) m c q cs ls' t := by
  refine ⟨fun b u e => ?_, S.gm, hG, S.gc, upd_same, by rw [upd_ne S.mc.symm]; exact S.hc, by rw [upd_ne nq]; exact hq, nc, S.nc, Nat.le_trans hn S.nl, hg, S.t0⟩
  rw [upd_ne (fun z => by rw [z, S.gm] at e; cases e)]
  exact S.sm _ _ e
theorem Ms.at' {G H : Hp} {m c l : Addr} {cs ls : List Int} {t t' : Int} (S : Ms G H m c l cs ls t) (h0 : 0 ≤ t') : Ms G (upd H m (.dK (mK c l t'))) m c l cs ls t' := by
  refine ⟨fun b u e => ?_, S.gm, S.gl, S.gc, upd_same, by rw [upd_ne S.mc.symm]; exact S.hc, by rw [upd_ne S.ml.symm]; exact S.hl, S.cl, S.nc, S.nl, S.ge, h0⟩
  rw [upd_ne (fun z => by rw [z, S.gm] at e; cases e)]
  exact S.sm _ _ e
theorem Ms.first {G H : Hp} {m c l : Addr} {cs ls : List Int} {x y t : Int} (S : Ms G H m c l cs (x :: ls) t) (h0 : 0 ≤ y) : Ms G (upd H l (.lst (((x :: ls).map V.int).set 0 (.int y)))) m c l cs (y :: ls) t := by
  refine ⟨fun b u e => ?_, S.gm, S.gl, S.gc, by rw [upd_ne S.ml]; exact S.hm, by rw [upd_ne S.cl]; exact S.hc, upd_same, S.cl, S.nc, S.nl, fun z hz => ?_, S.t0⟩
  · rw [upd_ne (fun z => by rw [z, S.gl] at e; cases e)]
    exact S.sm _ _ e
  · rcases List.mem_cons.mp hz with z' | z'
    · subst z'
      exact h0
    · exact S.ge z (List.mem_cons_of_mem _ z')
def top (i : Nat) : Stmt := PySem.Challenge.pw_growthkinds_k01_whole_families_made.main.body.getD i (.Pass ⟨0, 0, 0, 0⟩)
abbrev sNext : Stmt := top 16
def spNext : Sp := fun vs H Q _ => ∃ (m : Addr) (many : Int) (G : Hp) (T : Int), vs = [.ref m, .int many] ∧ Mst G H m T ∧ T ≤ 1000000000 ∧ 1 ≤ many ∧ many < 1073741824 ∧
  ∀ (r : Int) (H' : Hp), 0 ≤ r → r < many → Mst G H' m (T + 1) → Q (.int r) H'
structure TxN (mg : Str → Option Value) : Prop where
  int : mg "int" = none
  len : mg "len" = none
theorem boot_int : bootBuiltins "int" = some (.type "int") := by decide +kernel
section
variable {P : Program} {w : World} {K : PySem.W.Frag} {mg : Str → Option Value} {base : Heap}
theorem scN : FnScope ["m", "many", "rest", "at", "bits", "cell", "blend"] ["m", "many"] (defScope sNext) := ⟨rfl, rfl, rfl, by decide +kernel, rfl, by decide +kernel, by decide +kernel⟩
theorem ok_next {f : Addr} {fd : FuncData} (F : Fun K "_law_next" "_law_next" sNext f fd) (T : TxN mg) : FnOk P w K mg base CX0 1 f fd ["m", "many"] spNext := by
  refine F.ok scN (fun vs H Q E h => ?_) (fun cdv A outer s H vs Q E hr h => ?_)
  · obtain ⟨m, many, G, T, rfl, _⟩ := h
    rfl
  · obtain ⟨m, many, G, Tm, rfl, ⟨c, l, cs, ls, t, M, ht⟩, hT, h1, h2, k⟩ := h
    have hu := hu_of hr
    have h64 := hu64 hr
    refine ⟨_, C8.pss_cut (ps_while PassesOwn.never (pw_and (pt_cmpR (op_neE h64) (pe_dget hu (pv 0) pe_str (fun _ _ => rfl)) (pe_lst pa_nil) (nomark _)) (pw_and1 (pt_cmpR op_eq (pe_ix ix_list (pe_dget hu (pv 0) pe_str (fun _ _ => rfl)) pe_int (fun _ _ => rfl)) pe_int (nomark _)))).pt
          (pss_one (ps_dput hu (pv 0) pe_str (pe_slice sl_list (pe_dget hu (pv 0) pe_str (fun _ _ => rfl)) (po_some pe_int) po_none) rfl)))
      (pss_cons (ps_if (pt_cmpR (op_neE h64) (pe_dget hu (pv 0) pe_str (fun _ _ => rfl)) (pe_lst pa_nil) (nomark _))
          (pss_cons (ps_set (i := 2) scN.nd rfl (Or.inl rfl) (pe_ix ix_list (pe_dget hu (pv 0) pe_str (fun _ _ => rfl)) pe_int (fun _ _ => rfl)))
          (pss_cons (ps_asg (pe_op op_fdiv (pv 2) (pv 1)) (pg_sub (pe_dget hu (pv 0) pe_str (fun _ _ => rfl)) pe_int set_list))
          (pss_one (ps_ret (pe_op op_mod (pe_callTy call_int1 (by rfl) T.int boot_int (pa_cons (pv 2) pa_nil)) (pv 1))))))
          pss_nil)
      (pss_cons (ps_par (i := 3) (j := 4) rfl scN.nd rfl rfl (by decide) rfl rfl (pa_cons (pe_op op_add (pe_dget hu (pv 0) pe_str (fun _ _ => rfl)) pe_int) (pa_cons (pe_dget hu (pv 0) pe_str (fun _ _ => rfl)) pa_nil)) rfl)
      (pss_cons (ps_dput hu (pv 0) pe_str (pv 3) rfl)
      (C8.pss_cut (ps_set (i := 5) scN.nd rfl (Or.inl rfl) (pe_ifExp (pt_cmpR (op_neE h64) (pv 4) (pe_lst pa_nil) (nomark _))
          (pe_callTy call_int1 (by rfl) T.int boot_int (pa_cons (pe_ix ix_list (pv 4) (pe_op op_mod (pe_callTy call_int1 (by rfl) T.int boot_int (pa_cons (pe_op op_add (pe_op op_mul (pv 3) (pv 3)) (pe_op op_fdiv (pv 3) pe_int)) pa_nil)) (pe_callB call_len_seq (by rfl) T.len PySem.boot_len (pa_cons (pv 4) pa_nil))) (fun _ _ => rfl)) pa_nil))
          pe_int))
      (pss_cons (ps_set (i := 6) scN.nd rfl (Or.inl rfl) (pe_op op_mod (pe_callTy call_int1 (by rfl) T.int boot_int (pa_cons (pe_op op_add (pe_op op_add (pe_op op_mul (pv 5) pe_int) (pe_op op_mul (pv 3) pe_int)) (pe_op op_mul (pe_op op_mul pe_int (pv 3)) (pv 3))) pa_nil)) pe_int))
      (pss_one (ps_ret (pe_op op_mod (pe_callTy call_int1 (by rfl) T.int boot_int (pa_cons (pe_op op_fdiv (pe_op op_mod (pe_callTy call_int1 (by rfl) T.int boot_int (pa_cons (pe_op op_add (pe_op op_mul (pv 6) pe_int) (pe_op op_mul pe_int (pv 3))) pa_nil)) pe_int) pe_int) pa_nil)) (pv 1))))))))), ?_⟩
    refine ⟨fun σ H' => σ = [some (.ref m), some (.int many), none, none, none, none, none] ∧ ∃ (l : Addr) (ls : List Int), Ms G H' m c l cs ls t, ?_, ?_⟩
    · -- the while
      refine ⟨fun n σ H' => σ = [some (.ref m), some (.int many), none, none, none, none, none] ∧ ∃ (l : Addr) (ls : List Int), Ms G H' m c l cs ls t ∧ ls.length = n, ⟨_, rfl, l, ls, M, rfl⟩, ?_⟩
      rintro n σ H' ⟨rfl, l, ls, M, rfl⟩
      refine ⟨_, rfl, m, _, rfl, M.dLeft, Nat.zero_le _, fun p hp => ?_⟩
      have M1 := M.junk (o := .lst []) hp
      refine ⟨l, p, ls, rfl, rfl, SqL.of M1.hl, SqL.of upd_same, _, rfl, ?_⟩
      cases ls with
      | nil => exact iteF (iteF ⟨rfl, l, _, M1⟩)
      | cons x xs =>
        refine iteT ?_
        refine ⟨_, rfl, m, _, rfl, M1.dLeft, l, _, 0, .int x, rfl, rfl, SqL.of M1.hl, at0, rfl, _, rfl, ?_⟩
        by_cases hx : x = 0
        · subst hx
          rw [decide_eq_true rfl]
          refine iteT ⟨_, fun σ' H' h => ⟨xs.length, Nat.lt_succ_self _, h⟩, ?_⟩
          refine ⟨_, rfl, m, _, rfl, M1.dLeft, 1, rfl, l, _, rfl, SqL.of M1.hl, fun q hq => ?_⟩
          have M2 := M1.junk (o := .lst (cutV ((0 :: xs).map V.int) (some 1) none)) hq
          refine ⟨_, rfl, m, _, rfl, DPut.k (k := Sum.inr "left") M2.hm (by show 3 < sizeLine; decide), rfl, q, xs, ?_, rfl⟩
          rw [p_left]
          exact M2.left' (M1.sm.free hq) (by rw [upd_same, cut1]) (ne_of_none M1.hm hq).symm (ne_of_none M1.hc hq) (Nat.le_succ _) fun y hy => M2.ge y (List.mem_cons_of_mem _ hy)
        · rw [decide_eq_false (fun e => hx (V.int.inj e))]
          exact iteF ⟨rfl, l, _, M1⟩
    · rintro σ H' ⟨rfl, l, ls, M⟩
      refine ⟨_, rfl, m, _, rfl, M.dLeft, Nat.zero_le _, fun p hp => ?_⟩
      have M1 := M.junk (o := .lst []) hp
      refine ⟨l, p, ls, rfl, rfl, SqL.of M1.hl, SqL.of upd_same, _, rfl, ?_⟩
      cases ls with
      | cons x xs =>
        refine iteT ?_
        have hx : 0 ≤ x := M1.ge x (List.mem_cons_self ..)
        refine ⟨_, rfl, m, _, rfl, M1.dLeft, l, _, 0, .int x, rfl, rfl, SqL.of M1.hl, at0, ?_⟩
        refine ⟨_, rfl, _, rfl, _, _, rfl, rfl, ⟨by omega, h2⟩, ?_⟩
        refine ⟨_, rfl, m, _, rfl, M1.dLeft, l, _, 0, 0, rfl, rfl, M1.hl, ix0, ?_⟩
        have M2 := M1.first (y := x / many) (Int.ediv_nonneg hx (by omega))
        refine ⟨_, rfl, .inl ⟨_, rfl, ?_⟩⟩
        refine ⟨_, rfl, _, _, rfl, rfl, by omega, ?_⟩
        exact k _ _ (Int.emod_nonneg _ (by omega)) (Int.emod_lt_of_pos _ (by omega)) ⟨c, l, cs, _, t, M2, by omega⟩
      | nil =>
        refine iteF ?_
        have t0 := M1.t0
        refine ⟨_, rfl, m, _, rfl, M1.dAt, _, _, rfl, rfl, _, rfl, m, _, rfl, M1.dCells, _, _, rfl, ?_⟩
        refine ⟨_, rfl, _, rfl, m, _, rfl, DPut.k (k := Sum.inr "at") M1.hm (by show 3 < sizeLine; decide), ?_⟩
        rw [p_at]
        have M2 := M1.at' (t' := t + 1) (by omega)
        have tl : -(2 ^ 64) < t + 1 ∧ t + 1 < 2 ^ 64 := ⟨by omega, by omega⟩
        refine ⟨fun σ' H' => ∃ z : Int, σ' = [some (.ref m), some (.int many), none, some (.int (t + 1)), some (.ref c), some (.int z), none] ∧ Mst G H' m (Tm + 1), ?_, ?_⟩
        · refine ⟨_, rfl, Nat.zero_le _, fun q hq => ?_⟩
          have M3 := M2.junk (o := .lst []) hq
          refine ⟨c, q, cs, rfl, rfl, SqL.of M3.hc, SqL.of upd_same, _, rfl, ?_⟩
          have M4 : Mst G _ m (Tm + 1) := ⟨c, l, cs, _, t + 1, M3, by omega⟩
          cases cs with
          | nil => exact iteF ⟨5, rfl, M4⟩
          | cons y ys =>
            refine iteT ?_
            refine ⟨_, rfl, _, rfl, _, rfl, _, _, rfl, rfl, .inl tl, _, rfl, _, _, rfl, rfl, ⟨by decide, by decide⟩, _, _, rfl, rfl, .inl ⟨_, rfl, ?_⟩⟩
            refine ⟨_, rfl, c, _, rfl, .inl (SqL.of M3.hc), _, _, rfl, rfl, ?_, ?_⟩
            · rw [List.length_map, List.length_cons]
              omega
            · obtain ⟨v, hv, hm⟩ := mod_at (xs := (y :: ys).map V.int) (j := ((t + 1) * (t + 1) + (t + 1) / 2) % (((y :: ys).map V.int).length : Int)) (Int.emod_nonneg _ (by rw [List.length_map, List.length_cons]; omega)) (Int.emod_lt_of_pos _ (by rw [List.length_map, List.length_cons]; omega))
              obtain ⟨z, _, rfl⟩ := List.mem_map.mp hm
              exact ⟨c, _, _, _, rfl, rfl, SqL.of M3.hc, hv, .inl ⟨_, rfl, z, rfl, M4⟩⟩
        · rintro σ' H' ⟨z, rfl, M4⟩
          refine ⟨_, rfl, _, _, rfl, rfl, .inr ⟨by decide, by decide⟩, _, rfl, _, _, rfl, rfl, .inr ⟨by decide, by decide⟩, _, _, rfl, rfl, ?_⟩
          refine ⟨_, rfl, _, _, rfl, rfl, .inl ⟨by decide, by decide⟩, _, rfl, _, _, rfl, rfl, .inr tl, _, _, rfl, rfl, .inl ⟨_, rfl, ?_⟩⟩
          refine ⟨_, _, rfl, rfl, (by show (0 : Int) < 2147483399; decide), ?_⟩
          refine ⟨_, rfl, _, _, rfl, rfl, .inr ⟨by decide, by decide⟩, _, rfl, _, _, rfl, rfl, .inl ⟨by decide, by decide⟩, _, _, rfl, rfl, .inl ⟨_, rfl, ?_⟩⟩
          refine ⟨_, _, rfl, rfl, (by show (0 : Int) < 2147483647; decide), _, _, rfl, rfl, ⟨by decide, by decide⟩, .inl ⟨_, rfl, ?_⟩⟩
          refine ⟨_, rfl, _, _, rfl, rfl, by omega, ?_⟩
          exact k _ _ (Int.emod_nonneg _ (by omega)) (Int.emod_lt_of_pos _ (by omega)) M4
end
end G

set_option Elab.async false
set_option maxRecDepth 100000
namespace G
open PySem L2 PySem.Spec PyProof.Rows
abbrev sBegun : Stmt := top 15
def spBegun (K : PySem.W.Frag) : Sp := fun vs H Q _ => ∃ (a : Addr) (ns : List Int), vs = [.ref a] ∧ SqL K H a (ns.map V.int) ∧ ns.length ≤ 63 ∧
  ∀ (m : Addr) (H' : Hp), Mst H H' m 0 → Q (.ref m) H'
theorem boot_list : bootBuiltins "list" = some (.type "list") := by decide +kernel
structure TxB (mg : Str → Option Value) : Prop where
  list : mg "list" = none
theorem merge3 (c l : Addr) (t : Int) : mergeK [] (mK c l t) = mK c l t := by
  unfold mergeK mK
  simp [putK, k1, k2, k3]
section
variable {P : Program} {w : World} {K : PySem.W.Frag} {mg : Str → Option Value} {base : Heap}
theorem scB : FnScope ["script", "cell"] ["script"] (defScope sBegun) := ⟨rfl, rfl, rfl, by decide +kernel, rfl, by decide +kernel, by decide +kernel⟩
theorem ok_begun {f : Addr} {fd : FuncData} (F : Fun K "_law_begun" "_law_begun" sBegun f fd) (T : TxB mg) : FnOk P w K mg base CX0 1 f fd ["script"] (spBegun K) := by
  refine F.ok scB (fun vs H Q E h => ?_) (fun cdv A outer s H vs Q E hr h => ?_)
  · obtain ⟨a, ns, rfl, _⟩ := h
    rfl
  · obtain ⟨a, ns, rfl, hS, hlen, k⟩ := h
    have hu := hu_of hr
    refine ⟨_, pss_one (ps_ret (pe_disp (pps_cons pe_str (pe_callTy call_list_of (by rfl) T.list boot_list (pa_cons (pv 0) pa_nil))
      (pps_cons pe_str (pe_lc (own := [("cell", 1)]) (g := gName 1) (by rfl) scB.nd (pi_list (pv 0)) (blkOk_by (own := [("cell", 1)]) (N := ["script", "cell"]) (sc := defScope sBegun) (by decide +kernel)) (fun _ _ _ _ _ => pg_name (i := 1) scB.nd rfl (Or.inl rfl)) (fun _ _ _ _ _ => pts_one (pt_cmpR op_ge (pv 1) (pe_op op_pow pe_int pe_int) (nomark _))) (fun _ _ _ _ _ => pv 1))
      (pps_cons pe_str pe_int pps_nil))) rfl rfl (by simp) (by decide))), ?_⟩
    intro m hm
    refine ⟨_, rfl, a, _, rfl, .inl ((same_new hm).seq hS), fun c hc => ?_⟩
    have s1 : Same H (upd (upd H m (.dK [])) c (.lst (ns.map V.int))) := (same_new hm).trans (same_new hc)
    refine ⟨_, rfl, a, rfl, ⟨_, s1.seq hS⟩, fun l hl => lc_list (xs := ns.map V.int) (fun i H' => ∃ ls : List Int, H' = upd (upd (upd H m (.dK [])) c (.lst (ns.map V.int))) l (.lst (ls.map V.int)) ∧ ls.length ≤ i ∧ ∀ x ∈ ls, 0 ≤ x)
      ⟨[], rfl, Nat.le_refl _, fun _ z => nomatch z⟩ (fun i H' _ ⟨ls, e, _⟩ => by rw [e]; exact (s1.trans (same_new hl)).seq hS) ?_ ?_⟩
    · rintro i x H' hx ⟨ls, rfl, hn, hp⟩
      obtain ⟨z, hz, rfl⟩ : ∃ z, ns[i]? = some z ∧ x = V.int z := by
        rw [List.getElem?_map] at hx
        cases e : ns[i]? with
        | none =>
          rw [e] at hx
          cases hx
        | some z =>
          rw [e] at hx
          exact ⟨z, rfl, (Option.some.inj hx).symm⟩
      have hi : i < ns.length := (List.getElem?_eq_some_iff.mp hz).1
      refine ⟨rfl, _, rfl, _, _, rfl, rfl, ⟨by decide, by decide, by decide⟩, _, _, rfl, rfl, _, rfl, ?_⟩
      refine ite2 (fun h => ?_) (fun h => ?_)
      · have h' := of_decide_eq_true h
        refine ⟨_, rfl, _, upd_same, Nat.lt_of_le_of_lt (by rw [List.length_map]; exact hn) (Nat.lt_of_lt_of_le hi (Nat.le_trans hlen (by decide))), ls ++ [z], ?_, ?_, ?_⟩
        · rw [upd_upd, List.map_append]
          rfl
        · rw [List.length_append, List.length_singleton]
          omega
        · intro y hy
          rcases List.mem_append.mp hy with q | q
          · exact hp y q
          · rw [List.mem_singleton] at q
            subst q
            exact Int.le_trans (by decide) h'
      · exact ⟨ls, rfl, Nat.le_succ_of_le hn, hp⟩
    · rintro H' ⟨ls, rfl, hn, hp⟩
      have ncm : c ≠ m := fun e => by
        rw [e, upd_same] at hc
        cases hc
      have nlm : l ≠ m := fun e => by
        rw [e, upd_ne ncm.symm, upd_same] at hl
        cases hl
      have ncl : c ≠ l := fun e => by
        rw [← e, upd_same] at hl
        cases hl
      have hc0 : H c = none := by
        rw [upd_ne ncm] at hc
        exact hc
      have hl0 : H l = none := by
        rw [upd_ne ncl.symm, upd_ne nlm] at hl
        exact hl
      refine ⟨?_, mK c l 0, rfl, (by show 3 ≤ 15; decide), ?_⟩
      · rw [upd_ne nlm.symm, upd_ne ncm.symm, upd_same]
      · rw [merge3]
        refine k m _ ⟨c, l, ns, ls, 0, ⟨fun b u e => ?_, hm, hl0, hc0, upd_same, ?_, ?_, ncl, by omega, ?_, hp, Int.le_refl _⟩, Int.le_refl _⟩
        · rw [upd_ne (ne_of_none e hm)]
          exact (s1.trans (same_new hl)) _ _ e
        · rw [upd_ne ncm, upd_ne ncl, upd_same]
        · rw [upd_ne nlm, upd_same]
        · rw [List.length_map] at hn
          omega
end
end G

set_option Elab.async false
set_option maxRecDepth 100000
/-! Defs that run where no repr is under way (the guards are empty): the promise, its call, the law's own call. -/
namespace G
open PySem L2 PySem.Spec PyProof.Rows

/-- a def's promise where no repr is under way -/
structure FnG (P : Program) (w : World) (K : PySem.W.Frag) (mg : Str → Option Value) (base : Heap) (CX : CXT) (k : Nat)
    (f : Addr) (fd : FuncData) (ps : List Str) (sp : Sp) : Prop where
  len : ∀ vs H Q E, sp vs H Q E → vs.length = ps.length
  go : ∀ (A : Around) (fr : List Env) (s : Shared) (H : Hp) (ar : Args) (us : List Value) (vs : List V) (Q : VK) (E : XK),
    A.guards = some [] → Room k A → Env0 P w K mg base A fr s H → BindsTo s fd ar (ps.zip us) → Vals vs us → sp vs H Q E →
    codeAny (model P w) A (.call (.ref f) ar) (CR CX fr P w H s Q E) s
section
variable {P : Program} {w : World} {K : PySem.W.Frag} {mg : Str → Option Value} {base : Heap} {CX : CXT} {k : Nat} {f : Addr} {fd : FuncData} {ps N : List Str} {sp : Sp}
theorem FnG.of (F : FnOk P w K mg base CX k f fd ps sp) : FnG P w K mg base CX k f fd ps sp :=
  ⟨F.len, fun A fr s H ar us vs Q E _ => F.run A fr s H ar us vs Q E⟩
theorem FnG.mono {j : Nat} (F : FnG P w K mg base CX j f fd ps sp) (h : j ≤ k) : FnG P w K mg base CX k f fd ps sp :=
  ⟨F.len, fun A fr s H ar us vs Q E hg hr => F.go A fr s H ar us vs Q E hg (hr.mono h)⟩
theorem okG0 {x qual : Str} {st : Stmt} (F : Fun K x qual st f fd) (S : FnScope N ps (defScope st))
    (len : ∀ vs H Q E, sp vs H Q E → vs.length = ps.length)
    (body : ∀ (cd : Value) (A : Around) (fr : List Env) (s : Shared) (H : Hp) (vs : List V) (Q : VK) (E : XK),
      A.guards = some [] → Room k (A.deeper (envOfC qual (defScope st) s.heap.objs.size f cd)) → sp vs H Q E →
      ∃ t, PSs (cxOf CX P w K mg base N qual (defScope st) f cd A fr s H E) (defBody st) t ∧ t ⟨fun _ H' => Q .non H', Q, fun _ _ => False, fun _ _ => False⟩ (start N vs) H) :
    FnG P w K mg base CX (k + 1) f fd ps sp := by
  obtain ⟨oc, od, kV, doc, pm, an, cd, ct, osl, rfl, lk, hc⟩ := F.ex
  refine ⟨len, fun A fr s H ar us vs Q E hg hr env bt rel hsp => ?_⟩
  have inK : K.In s.heap := env.mod.kin.keeps fun b o e => (env.bs b o e).1
  have room := env.mod.nolimit.keeps fun b o e => (env.bs b o e).1
  have kinds : ∀ y ∈ ps.zip us, (defScope st).names.lookup y.1 = some .local ∨
      ((defScope st).names.lookup y.1 = some .cell ∧
        ((cellsFrom (s.heap.objs.size + 1) (defScope st).names []).lookup y.1).isSome = true) := by
    rintro ⟨n, v⟩ hy
    cases S.par n (List.of_mem_zip hy).1 with
    | inl q => exact .inl q
    | inr q => exact .inr ⟨q, PySem.W.cellsFrom_some _ _ _ (.inl q)⟩
  refine codeAny_call_function hr.depth (inK _ _ lk) rfl S.co S.gen rfl
    (PySem.W.codeRec_of inK hc) (bt _ _ _ _ ?_)
  refine wpAny_newFunctionEnv_cells S.kind kinds
    fun e1 h1 s1 inC => ?_
  subst h1
  refine ⟨room.keeps inC.toInCall.keep, codeAny_func ?_⟩
  obtain ⟨t, pss, rd⟩ := body cd A fr s H vs Q E hg (hr.deeper _) hsp
  have J := inv_start (CX := CX) (P := P) (mg := mg) (base := base) (E := E) S hr.hd env (len _ _ _ _ hsp) rel inC
  refine wpAny_mono (pss.run [] s1 (start N vs) H _ J rd)
    (fun fl s2 z => ?_) fun e s2 z => z
  cases fl with
  | ret u =>
    obtain ⟨v, σ2, H2, I2, r2, q2⟩ := z
    exact ⟨v, H2, I2.os, I2.bare, I2.base, I2.hok, r2, q2⟩
  | next =>
    obtain ⟨σ2, H2, I2, q2⟩ := z
    exact ⟨.non, H2, I2.os, I2.bare, I2.base, I2.hok, rfl, q2⟩
  | brk =>
    obtain ⟨_, _, _, no⟩ := z
    exact no.elim
  | cont =>
    obtain ⟨_, _, _, no⟩ := z
    exact no.elim
end
section
variable {P : Program} {w : World} {K : PySem.W.Frag} {mg : Str → Option Value} {base : Heap} {k : Nat} {f : Addr} {fd : FuncData} {ps N : List Str} {sp : Sp}
/-- a def that lets no exception out -/
theorem okG {x qual : Str} {st : Stmt} (F : Fun K x qual st f fd) (S : FnScope N ps (defScope st))
    (len : ∀ vs H Q E, sp vs H Q E → vs.length = ps.length)
    (body : ∀ (cd : Value) (A : Around) (fr : List Env) (s : Shared) (H : Hp) (vs : List V) (Q : VK) (E : XK),
      A.guards = some [] → Room k (A.deeper (envOfC qual (defScope st) s.heap.objs.size f cd)) → sp vs H Q E →
      ∃ t, PSs (cxOf CX0 P w K mg base N qual (defScope st) f cd A fr s H E).nox (defBody st) t ∧ t { nx := fun _ H' => Q .non H', rt := Q } (start N vs) H) :
    FnG P w K mg base CX0 (k + 1) f fd ps sp :=
  okG0 F S len fun cd A fr s H vs Q E hg hr h =>
    let ⟨t, p, q⟩ := body cd A fr s H vs Q E hg hr h
    ⟨t, p.nox, q⟩
end
section
variable {X : Cx} {CX : CXT} {k : Nat} {f : Addr} {fd : FuncData} {ps : List Str} {sp : Sp} {dvs : List V} {ds : List Value} {E : XK} {x : Str} {p pos : Pos} {e : Expr} {es : List Expr} {t : TA}
/-- the call of such a def -/
theorem pe_callG (gd : X.A.guards = some []) (F : FnG X.prog X.w X.K X.mg X.base CX k f fd ps sp) (hr : Room k X.A) (hg : Gl X x) (hm : X.mg x = some (.ref f))
    (hk : PySem.W.keepIn X.K (.ref f) = true) (hb : Binds X.K fd ps ds) (hd : Vals dvs ds) (hx : Passes CX X E) (ha : PA X (e :: es) t)
    (hdb : (x == ("__debug__" : Str)) = false := by decide)
    (he : starEach (e :: es) X.env = (false, eval e X.env) :: starEach es X.env := by rfl)
    (hpl : (backTo pos (starEach es X.env)).any (·.1) = false := by rfl) :
    PE X (.Call (.Name x p) (e :: es) [] pos) (tCall sp dvs E t) := by
  refine ⟨fun pins s σ H Q I h => ?_⟩
  refine wpAny_Call_Name_kw (ld_glob I hg hm ?_ hdb)
  refine PySem.W.callWith_K (h₀ := X.base) I.ok.mod.kin hk
    (thn (ha.run pos pins s σ H _ I h) fun us s1 ⟨vs, H1, J, rel, q⟩ => ⟨J.kIn, ?_⟩) he hpl
  have all : Vals (vs ++ dvs) (us ++ ds) := rel.append hd
  have ln : (us ++ ds).length = ps.length := by
    rw [← all.length]
    exact F.len _ _ _ _ q
  refine wpAny_call (codeAny_mono (F.go X.A X.stack s1 H1 ⟨us, []⟩ (us ++ ds) (vs ++ dvs) Q E gd hr J.env0
    (hb s1 us J.kIn ln) all q) fun r s2 z => ?_)
  cases r with
  | error er => exact hx pins σ H1 s1 er s2 J z
  | ok fl =>
    cases fl with
    | ret u => exact J.after z
    | next => exact z.elim
    | brk => exact z.elim
    | cont => exact z.elim
end
/-! ### the law's own call -/
section
variable {P : Program} {w : World} {K : PySem.W.Frag} {mg mb : Str → Option Value} {k : Nat} {fa a : Addr} {fd : FuncData} {x : Str} {sp : Sp} {s : Shared} {us : List Value} {ns : List Int}
/-- what the call of the law is to end in -/
def LawEnd (P : Program) (fa a : Addr) (w : World) (s : Shared) : Prop :=
  codeAny (model P w) callerA (.call (.ref fa) ⟨[.ref a], []⟩)
    (fun r s2 => r = .ok (.ret (.bool true)) ∧ OldK s.heap s2.heap ∧ s2.os = s.os ∧ AllBare s2.gens) s
/-- from a heap that tracks the script alone, locked, or nothing -/
theorem law_from {H : Hp} (inK : K.In s.heap) (gl : s.heap.Ns mainGlobals mg) (bl : s.heap.Ns builtinsNs mb)
    (bb : ∀ x : Str, x ≠ "__name__" → mb x = bootBuiltins x) (room : s.heap.NoLimit) (g0 : s.gens = #[])
    (sc : s.heap.get? a = some { cls := .type "list", data := .seq us.toArray }) (hr : Room k callerA)
    (F : ∀ base : Heap, K.In base → base.Ns mainGlobals mg → FnG P w K mg base CX0 k fa fd [x] sp)
    (bt : ∀ (s : Shared) (u : Value), BindsTo s fd ⟨[u], []⟩ [(x, u)])
    (only : Only H) (at_ : ∀ b, H b ≠ none → b = a) (out : H a ≠ none → K.lookup a = none) (ok : HOk P w H s.heap)
    (hq : sp [.ref a] H (fun v _ => v = .bl true) fun _ _ _ => False) : LawEnd P fa a w s := by
  have low : ∀ {b : Addr} {o : Obj}, s.heap.get? b = some o → H b = none → (hidT s.heap H).get? b = some o :=
    fun h1 h2 => hidT_get h1 h2
  have free : ∀ {b : Addr}, b ≠ a → H b = none := fun {b} hb => by
    cases e : H b with
    | none => rfl
    | some u => exact (hb (at_ b (by rw [e]; exact fun z => nomatch z))).elim
  have dicts : ∀ {b : Addr} {m : Str → Option Value}, s.heap.Ns b m → (hidT s.heap H).Ns b m := by
    rintro b m ⟨o, es, ep, h1, h2, h3⟩
    refine ⟨o, es, ep, low h1 (free fun e => ?_), h2, h3⟩
    rw [e, sc] at h1
    cases h1
    have h4 : Data.seq us.toArray _ = Data.dict es ep := h2
    cases h4
  have inB : K.In (hidT s.heap H) := fun b o e => low (inK b o e) (by
    cases q : H b with
    | none => rfl
    | some u =>
      have ne : H b ≠ none := by
        rw [q]
        exact fun z => nomatch z
      have eb := at_ b ne
      rw [eb] at e ne
      rw [out ne] at e
      cases e)
  obtain ⟨mc, l1, l2⟩ := room
  have md : Mod K mg (hidT s.heap H) := ⟨inB, dicts gl, ⟨mb, dicts bl, bb⟩, mc, dicts l1, l2⟩
  have none_in : ∀ b : Addr, b ∉ ([] : List Addr) := fun b z => nomatch z
  have env : Env0 P w K mg (hidT s.heap H) callerA [] s H :=
    ⟨rfl, md, fun b o e => of_hidT e, Nat.le_of_eq (hidT_size _ _), trivial, fun b z => (none_in b z).elim, ok, .of_eq g0⟩
  refine codeAny_mono ((F _ inB (dicts gl)).go callerA [] s H ⟨[.ref a], []⟩ [.ref a] [.ref a] _ _ rfl hr env
    (bt s (.ref a)) (.cons rfl .nil) hq) fun r s2 z => ?_
  cases r with
  | error e => exact z.elim
  | ok fl =>
    cases fl with
    | next => exact z.elim
    | brk => exact z.elim
    | cont => exact z.elim
    | ret u =>
      obtain ⟨v, H2, h1, h2, un, ok2, rv, ev⟩ := z
      have ev' : v = .bl true := ev
      rw [ev'] at rv
      have ru : u = Value.bool true := rv
      rw [ru]
      refine ⟨rfl, OldK.of_keep fun b o e => ?_, h1, h2⟩
      rcases only b with q | ⟨ob, xs, q⟩
      · exact un.keep b o e q (none_in b) (none_in b)
      · have q1 := (ok b _ q).1
        have q2 := (ok2 b _ (un.frzs b ob _ q)).1
        rw [e] at q1
        cases q1
        exact q2
theorem law_go (inK : K.In s.heap) (gl : s.heap.Ns mainGlobals mg) (bl : s.heap.Ns builtinsNs mb)
    (bb : ∀ x : Str, x ≠ "__name__" → mb x = bootBuiltins x) (room : s.heap.NoLimit) (g0 : s.gens = #[])
    (sc : s.heap.get? a = some { cls := .type "list", data := .seq us.toArray }) (hi : IntsAre us ns) (hl : ns.length ≤ sizeLine) (hr : Room k callerA)
    (F : ∀ base : Heap, K.In base → base.Ns mainGlobals mg → FnG P w K mg base CX0 k fa fd [x] sp)
    (bt : ∀ (s : Shared) (u : Value), BindsTo s fd ⟨[u], []⟩ [(x, u)])
    (hq : ∀ H : Hp, Only H → SqL K H a (ns.map V.int) → sp [.ref a] H (fun v _ => v = .bl true) fun _ _ _ => False) : LawEnd P fa a w s := by
  have rel := vals_ints hi
  have ln := hi.length
  cases lk : K.lookup a with
  | some o =>
    have e := inK a o lk
    rw [sc] at e
    cases e
    refine law_from (H := fun _ => none) inK gl bl bb room g0 sc hr F bt (fun _ => .inl rfl) (fun b z => (z rfl).elim) (fun z => (z rfl).elim)
      (fun b u z => nomatch (show (none : Option HO) = some u from z)) (hq _ (fun _ => .inl rfl) (.inr ?_))
    exact ⟨_, us.toArray, _, lk, rfl, rfl, rfl, by rw [List.size_toArray, ln]; exact hl, by simpa using rel⟩
  | none =>
    let ob : Obj := { cls := .type "list", data := .seq us.toArray }
    have e0 : ∀ {b : Addr}, b ≠ a → upd (fun _ => none) a (.frz ob (.lst (ns.map V.int))) b = none := fun h => upd_ne h
    have only : Only (upd (fun _ => none) a (.frz ob (.lst (ns.map V.int)))) := fun b => by
      by_cases hb : b = a
      · subst hb
        exact .inr ⟨_, _, upd_same⟩
      · exact .inl (e0 hb)
    refine law_from (H := upd (fun _ => none) a (.frz ob (.lst (ns.map V.int)))) inK gl bl bb room g0 sc hr F bt only (fun b z => ?_) (fun _ => lk)
      (fun b u z => ?_) (hq _ only (.inl (.inr ⟨ob, upd_same⟩)))
    · exact Classical.byContradiction fun hb => z (e0 hb)
    · by_cases hb : b = a
      · subst hb
        rw [upd_same] at z
        cases z
        exact ⟨sc, by rw [List.length_map]; exact hl, us, _, rel, sc⟩
      · rw [e0 hb] at z
        cases z
end
/-- the goal that the head leaves -/
theorem walkG {l : PySem.W.OpenLaw} {n k : Nat} {q : Program} {loose : List Str} {XP : (Str → Option Value) → Heap → Prop} {YP : World → Heap → Prop}
    {d : DefRec} {K : Params → PySem.W.Frag} {sp : World → Sp} {x : Str} (hn : l.most = some n) (n2 : n ≤ sizeLine)
    (hdf : d.params.defaults = []) (hr : Room k callerA) (hY : ∀ (w : World) (h : Heap), YP w h → (K w.params).In h)
    (F : ∀ (w : World) (mg : Str → Option Value) (fa : Addr) (h : Heap), (K w.params).In h → h.Ns mainGlobals mg → mg d.name = some (.ref fa) →
      ∃ fd : FuncData, (∀ (s : Shared) (u : Value), BindsTo s fd ⟨[u], []⟩ [(x, u)]) ∧
        ∀ base : Heap, (K w.params).In base → base.Ns mainGlobals mg → FnG l.prog w (K w.params) mg base CX0 k fa fd [x] (sp w))
    (hq : ∀ (w : World) (H : Hp) (a : Addr) (ns : List Int), ns.length ≤ n → SqL (K w.params) H a (ns.map V.int) →
      sp w [.ref a] H (fun v _ => v = .bl true) fun _ _ _ => False) :
    PySem.W.WalkO q loose XP YP l.row.toRowW d [] (fun f vs => PySem.call f vs) := by
  refine Att.attach_call hn hdf
    fun w s₀ s mg mb fa o pm cd doc a us ns gr Y _ _ _ hm sc hi hl g0 => ?_
  have inK := hY w _ Y
  obtain ⟨fd, bt, G⟩ := F w mg fa _ inK gr.T.g hm
  exact law_go inK gr.T.g gr.T.b gr.T.builtins gr.T.nolimit g0 sc hi (Nat.le_trans hl n2) hr G bt
    fun H _ h => hq w H a ns hl h
end G

set_option Elab.async false
set_option maxRecDepth 100000
/-! repr of data. -/
namespace G
open PySem L2 PySem.Spec PyProof.Rows
mutual
/-- data with empty dicts in it, without lists -/
inductive Dd (K : PySem.W.Frag) (H : Hp) : V → PyData → Prop
  | non : Dd K H .non .none
  | bl (b : Bool) : Dd K H (.bl b) (.bool b)
  | int (i : Int) : Dd K H (.int i) (.int i)
  | str (x : Str) : Dd K H (.str x) (.str x)
  | tup {a : Addr} {xs : List V} {ds : List PyData} : SqT K H a xs → DdAll K H xs ds → Dd K H (.ref a) (.tuple ds)
  | dct {a : Addr} : H a = some (.dK []) → Dd K H (.ref a) (.dict [])
inductive DdAll (K : PySem.W.Frag) (H : Hp) : List V → List PyData → Prop
  | nil : DdAll K H [] []
  | cons {v : V} {vs : List V} {d : PyData} {ds : List PyData} : Dd K H v d → DdAll K H vs ds → DdAll K H (v :: vs) (d :: ds)
end
/-- data of either sort -/
def Dq (K : PySem.W.Frag) (H : Hp) (v : V) (d : PyData) : Prop := Dp K H v d ∨ Dd K H v d
section
variable {K : PySem.W.Frag} {H H' : Hp}
theorem sqT_same {a : Addr} {xs : List V} (e : Same H H') (h : SqT K H a xs) : SqT K H' a xs := by
  rcases h with (h | ⟨o, h⟩) | h
  · exact .inl (.inl (e _ _ h))
  · exact .inl (.inr ⟨o, e _ _ h⟩)
  · exact .inr h
mutual
theorem Dp.same (e : Same H H') : ∀ {d : PyData} {v : V}, Dp K H v d → Dp K H' v d
  | .none, _, h => by cases h; exact .non
  | .bool _, _, h => by cases h; exact .bl _
  | .int _, _, h => by cases h; exact .int _
  | .str _, _, h => by cases h; exact .str _
  | .list ds, _, h => by
    cases h with
    | lst h1 h2 => exact .lst (e.seq h1) (DpAll.same e h2)
  | .tuple ds, _, h => by
    cases h with
    | tup h1 h2 => exact .tup (sqT_same e h1) (DpAll.same e h2)
  | .dict _, _, h => by cases h
theorem DpAll.same (e : Same H H') : ∀ {ds : List PyData} {vs : List V}, DpAll K H vs ds → DpAll K H' vs ds
  | [], _, h => by cases h; exact .nil
  | d :: ds, _, h => by
    cases h with
    | cons h1 h2 => exact .cons (Dp.same e h1) (DpAll.same e h2)
end
mutual
theorem Dd.same (e : Same H H') : ∀ {d : PyData} {v : V}, Dd K H v d → Dd K H' v d
  | .none, _, h => by cases h; exact .non
  | .bool _, _, h => by cases h; exact .bl _
  | .int _, _, h => by cases h; exact .int _
  | .str _, _, h => by cases h; exact .str _
  | .list ds, _, h => by cases h
  | .tuple ds, _, h => by
    cases h with
    | tup h1 h2 => exact .tup (sqT_same e h1) (DdAll.same e h2)
  | .dict _, _, h => by
    cases h with
    | dct h => exact .dct (e _ _ h)
theorem DdAll.same (e : Same H H') : ∀ {ds : List PyData} {vs : List V}, DdAll K H vs ds → DdAll K H' vs ds
  | [], _, h => by cases h; exact .nil
  | d :: ds, _, h => by
    cases h with
    | cons h1 h2 => exact .cons (Dd.same e h1) (DdAll.same e h2)
end
theorem Dq.same {d : PyData} {v : V} (h : Dq K H v d) (e : Same H H') : Dq K H' v d := h.imp (Dp.same e) (Dd.same e)
mutual
theorem Dp.noDict : ∀ {d : PyData} {v : V}, Dp K H v d → d.hasDict = false
  | .none, _, _ => by simp only [PyData.hasDict]
  | .bool _, _, _ => by simp only [PyData.hasDict]
  | .int _, _, _ => by simp only [PyData.hasDict]
  | .str _, _, _ => by simp only [PyData.hasDict]
  | .list ds, _, h => by
    cases h with
    | lst _ h2 =>
      simp only [PyData.hasDict]
      exact DpAll.noDict h2
  | .tuple ds, _, h => by
    cases h with
    | tup _ h2 =>
      simp only [PyData.hasDict]
      exact DpAll.noDict h2
  | .dict _, _, h => by cases h
theorem DpAll.noDict : ∀ {ds : List PyData} {vs : List V}, DpAll K H vs ds → PyData.hasDictAll ds = false
  | [], _, _ => by simp only [PyData.hasDictAll]
  | d :: ds, _, h => by
    cases h with
    | cons h1 h2 => simp only [PyData.hasDictAll, Dp.noDict h1, DpAll.noDict h2, Bool.or_self]
end
end
section
variable {X : Cx} {pins : List (Addr × Obj)} {σ : L2.St} {H : Hp} {s : Shared}
mutual
theorem Dd.reads (I : Inv X pins σ H s) : ∀ {d : PyData} {v : V} {u : Value}, Dd X.K H v d → RelV v u → ∃ as, Reads s.heap u d as ∧ sysModules ∉ as
  | .none, _, _, h, r => by
    cases h
    cases r
    exact ⟨_, .none, fun z => nomatch z⟩
  | .bool b, _, _, h, r => by
    cases h
    cases r
    exact ⟨_, .bool b, fun z => nomatch z⟩
  | .int i, _, _, h, r => by
    cases h
    obtain ⟨t, rfl⟩ := r
    exact ⟨_, .int i t, fun z => nomatch z⟩
  | .str x, _, _, h, r => by
    cases h
    obtain ⟨t, rfl⟩ := r
    exact ⟨_, .str x t, fun z => nomatch z⟩
  | .list _, _, _, h, _ => by cases h
  | .tuple ds, _, _, h, r => by
    cases h with
    | tup h1 h2 =>
      cases r
      obtain ⟨its, rv, ⟨o, e1, e2, n, e3⟩, _⟩ := I.tuple h1
      obtain ⟨as, q1, q2⟩ := DdAll.reads I h2 rv
      exact ⟨_, .tuple e1 e2 e3 q1, q2⟩
  | .dict _, _, _, h, r => by
    cases h with
    | @dct a h1 =>
      cases r
      obtain ⟨_, ns, vs, kv, o, es, ep, e1, e2, e3, _, e5, _⟩ := (show ObjOk X.prog X.w H s.heap a (.dK []) from I.hok a _ h1)
      cases kv
      have e6 : es.toList = [] := by
        cases q : es.toList with
        | nil => rfl
        | cons x l =>
          rw [q] at e5
          cases e5
      refine ⟨_, .dict (as := []) (bs := []) e1 e2.1 e3 (by rw [e6]; exact .nil) (by rw [e6]; exact .nil), fun z => ?_⟩
      have z' : sysModules = a := by simpa using z
      rw [z'] at ns
      simp at ns
theorem DdAll.reads (I : Inv X pins σ H s) : ∀ {ds : List PyData} {vs : List V} {us : List Value}, DdAll X.K H vs ds → Vals vs us → ∃ as, ReadsAll s.heap us ds as ∧ sysModules ∉ as
  | [], _, _, h, r => by
    cases h
    cases r
    exact ⟨_, .nil, fun z => nomatch z⟩
  | d :: ds, _, _, h, r => by
    cases h with
    | cons h1 h2 =>
      cases r with
      | cons r1 r2 =>
        obtain ⟨as, q1, n1⟩ := Dd.reads I h1 r1
        obtain ⟨bs, q2, n2⟩ := DdAll.reads I h2 r2
        exact ⟨_, .cons q1 q2, fun z => (List.mem_append.mp z).elim n1 n2⟩
end
theorem Dq.reads (I : Inv X pins σ H s) {d : PyData} {v : V} {u : Value} (h : Dq X.K H v d) (r : RelV v u) : ∃ as, Reads s.heap u d as ∧ (d.hasDict = true → sysModules ∉ as) := by
  rcases h with h | h
  · obtain ⟨as, q⟩ := Dp.reads I d v u h r
    exact ⟨as, q, fun e => by rw [Dp.noDict h] at e; cases e⟩
  · obtain ⟨as, q, n⟩ := Dd.reads I h r
    exact ⟨as, q, fun _ => n⟩
end
/-- repr(x) -/
def rRepr (K : PySem.W.Frag) : List V → Hp → VK → Prop := fun xs H Q => ∃ (v : V) (d : PyData), xs = [v] ∧ Dq K H v d ∧ d.showable = true ∧ d.shown.length ≤ sizeLine ∧ d.depth ≤ 60 ∧ Q (.str d.shown) H
section
variable {X : Cx}
theorem call_repr (gd : X.A.guards = some []) (hu : X.A.units + 64 < cLine) : CallR X (.builtin "repr") (rRepr X.K) := by
  intro pins s σ H xs us Q I r h
  obtain ⟨v, d, rfl, hd, hs, hz, hp, q⟩ := h
  obtain ⟨u, rfl, r1⟩ := vals1 r
  obtain ⟨as, rd, no⟩ := hd.reads I r1
  have big : ∀ a : Addr, u = .ref a → wpAny (model X.prog X.w) X.A (call (.builtin "repr") [u]) (EP X pins σ Q) X.xe s := fun a e => by
    subst e
    exact repr_of_reads' rd hs no gd (by omega) (fun _ _ e => e) (fun h' t tk k => ⟨.str d.shown, H, I.kept k, ⟨_, rfl⟩, q⟩) hz
  cases id rd with
  | none => exact PySem.P.repr_of_none ⟨.str _, H, I.tok _, ⟨_, rfl⟩, by simpa [PyData.shown] using q⟩
  | bool b => exact PySem.P.repr_of_bool ⟨.str _, H, I.tok _, ⟨_, rfl⟩, by simpa [PyData.shown] using q⟩
  | int i t => exact PySem.P.repr_of_int (by simpa [PyData.showable] using hs) ⟨.str _, H, I.tok _, ⟨_, rfl⟩, by simpa [PyData.shown] using q⟩
  | str x t => exact PySem.P.repr_of_str ⟨.str _, H, I.tok _, ⟨_, rfl⟩, by simpa [PyData.shown] using q⟩ (by simpa [PyData.shown] using hz)
  | list _ _ _ _ => exact big _ rfl
  | tuple _ _ _ _ => exact big _ rfl
  | dict _ _ _ _ _ => exact big _ rfl
end
end G

set_option Elab.async false
set_option maxRecDepth 100000
namespace G
open PySem L2 PySem.Spec PyProof.Rows
abbrev sOdd : Stmt := top 19
def oddList : List PyData := [.none, .int 0, .int 1, .int 2, .int 3, .int (-1), .int 10, .int (-10), .bool true, .bool false, .str "", .str "a", .str "nil", .str "power", .str "factor", .tuple [], .tuple [.tuple []], .tuple [.tuple [.int 1]], .tuple [.str "a", .int 0], .list [], .dict [], .int (10 ^ 30), .tuple [.str "nil"], .tuple [.int 0, .int 1], .tuple [.str "power", .int 1], .tuple [.none], .tuple [.int 0], .tuple [.tuple [.int 0], .tuple [.int 1]]]
def spOdd (K : PySem.W.Frag) : Sp := fun vs H Q _ => ∃ (m : Addr) (G : Hp) (T : Int), vs = [.ref m] ∧ Mst G H m T ∧ T ≤ 1000000000 ∧
  ∀ (v : V) (d : PyData) (G' H' : Hp), Same G G' → Dq K G' v d → d ∈ oddList → Mst G' H' m (T + 1) → Q v H'
structure TxV (K : PySem.W.Frag) (mg : Str → Option Value) (fN : Addr) : Prop where
  next : mg "_law_next" = some (.ref fN)
  kn : PySem.W.keepIn K (.ref fN) = true
/-- the pick of a list of data -/
theorem pick_of {K : PySem.W.Frag} {H : Hp} : ∀ {xs : List V} {ds : List PyData}, Paired (Dq K H) xs ds → ∀ v ∈ xs, ∃ d ∈ ds, Dq K H v d
  | _, _, .nil, _, h => nomatch h
  | _, _, .cons r t, v, h => by
    rcases List.mem_cons.mp h with e | e
    · subst e
      exact ⟨_, List.mem_cons_self .., r⟩
    · obtain ⟨d, h1, h2⟩ := pick_of t v e
      exact ⟨d, List.mem_cons_of_mem _ h1, h2⟩
section
variable {P : Program} {w : World} {K : PySem.W.Frag} {mg : Str → Option Value} {base : Heap} {f fN : Addr} {fd fdN : FuncData}
theorem scO : FnScope ["m", "some"] ["m"] (defScope sOdd) := ⟨rfl, rfl, rfl, by decide +kernel, rfl, by decide +kernel, by decide +kernel⟩
theorem ok_odd (F : Fun K "_law_odd" "_law_odd" sOdd f fd) (T : TxV K mg fN) (GN : FnOk P w K mg base CX0 1 fN fdN ["m", "many"] spNext) (bN : Binds K fdN ["m", "many"] []) :
    FnOk P w K mg base CX0 2 f fd ["m"] (spOdd K) := by
  refine F.ok scO (fun vs H Q E h => ?_) (fun cdv A outer s H vs Q E hr h => ?_)
  · obtain ⟨m, G, T, rfl, _⟩ := h
    rfl
  · obtain ⟨m, G, Tm, rfl, M, hT, k⟩ := h
    refine ⟨_, pss_cons (ps_set (i := 1) scO.nd rfl (Or.inl rfl) (pe_lst (pa_cons pe_non (pa_cons pe_int (pa_cons pe_int (pa_cons pe_int (pa_cons pe_int (pa_cons (pe_un un_neg pe_int) (pa_cons pe_int (pa_cons (pe_un un_neg pe_int) (pa_cons pe_bl (pa_cons pe_bl (pa_cons pe_str (pa_cons pe_str (pa_cons pe_str (pa_cons pe_str (pa_cons pe_str (pa_cons (pe_tup pa_nil) (pa_cons (pe_tup (pa_cons (pe_tup pa_nil) pa_nil)) (pa_cons (pe_tup (pa_cons (pe_tup (pa_cons pe_int pa_nil)) pa_nil)) pa_nil)))))))))))))))))))) (pss_cons (ps_set (i := 1) scO.nd rfl (Or.inl rfl) (pe_op op_cat (pv 1) (pe_lst (pa_cons (pe_tup (pa_cons pe_str (pa_cons pe_int pa_nil))) (pa_cons (pe_lst pa_nil) (pa_cons pe_dnewK (pa_cons (pe_op op_pow pe_int pe_int) (pa_cons (pe_tup (pa_cons pe_str pa_nil)) (pa_cons (pe_tup (pa_cons pe_int (pa_cons pe_int pa_nil))) (pa_cons (pe_tup (pa_cons pe_str (pa_cons pe_int pa_nil))) (pa_cons (pe_tup (pa_cons pe_non pa_nil)) (pa_cons (pe_tup (pa_cons pe_int pa_nil)) (pa_cons (pe_tup (pa_cons (pe_tup (pa_cons pe_int pa_nil)) (pa_cons (pe_tup (pa_cons pe_int pa_nil)) pa_nil))) pa_nil)))))))))))))
      (pss_one (ps_ret (pe_ix ix_list (pv 1) (pe_call GN hr rfl T.next T.kn bN .nil pass0 (pa_cons (pv 0) (pa_cons pe_int pa_nil))) (fun _ _ => rfl))))), ?_⟩
    refine ⟨_, rfl, ?_⟩
    refine ⟨_, rfl, ?_⟩
    refine ⟨(by show 0 ≤ sizeLine; decide), fun p1 hp1 => ?_⟩
    have Mp1 := M.grow (o := .tup []) hp1
    have gp1 := M.sm.free hp1
    refine ⟨(by show 0 ≤ sizeLine; decide), fun p2 hp2 => ?_⟩
    have Mp2 := Mp1.grow (o := .tup []) hp2
    have gp2 := Mp1.sm.free hp2
    refine ⟨(by show 1 ≤ sizeLine; decide), fun p3 hp3 => ?_⟩
    have Mp3 := Mp2.grow (o := .tup [.ref p2]) hp3
    have gp3 := Mp2.sm.free hp3
    refine ⟨(by show 1 ≤ sizeLine; decide), fun p4 hp4 => ?_⟩
    have Mp4 := Mp3.grow (o := .tup [.int 1]) hp4
    have gp4 := Mp3.sm.free hp4
    refine ⟨(by show 1 ≤ sizeLine; decide), fun p5 hp5 => ?_⟩
    have Mp5 := Mp4.grow (o := .tup [.ref p4]) hp5
    have gp5 := Mp4.sm.free hp5
    refine ⟨(by show 18 ≤ sizeLine; decide), fun p6 hp6 => ?_⟩
    have Mp6 := Mp5.grow (o := .lst [.non, .int 0, .int 1, .int 2, .int 3, .int (-1), .int 10, .int (-10), .bl true, .bl false, .str "", .str "a", .str "nil", .str "power", .str "factor", .ref p1, .ref p3, .ref p5]) hp6
    have gp6 := Mp5.sm.free hp6
    refine ⟨_, rfl, ?_⟩
    refine ⟨(by show 2 ≤ sizeLine; decide), fun p7 hp7 => ?_⟩
    have Mp7 := Mp6.grow (o := .tup [.str "a", .int 0]) hp7
    have gp7 := Mp6.sm.free hp7
    refine ⟨(by show 0 ≤ sizeLine; decide), fun p8 hp8 => ?_⟩
    have Mp8 := Mp7.grow (o := .lst []) hp8
    have gp8 := Mp7.sm.free hp8
    refine fun p9 hp9 => ?_
    have Mp9 := Mp8.grow (o := .dK []) hp9
    have gp9 := Mp8.sm.free hp9
    refine ⟨_, _, rfl, rfl, ⟨by decide, by decide, by decide⟩, ?_⟩
    refine ⟨(by show 1 ≤ sizeLine; decide), fun p10 hp10 => ?_⟩
    have Mp10 := Mp9.grow (o := .tup [.str "nil"]) hp10
    have gp10 := Mp9.sm.free hp10
    refine ⟨(by show 2 ≤ sizeLine; decide), fun p11 hp11 => ?_⟩
    have Mp11 := Mp10.grow (o := .tup [.int 0, .int 1]) hp11
    have gp11 := Mp10.sm.free hp11
    refine ⟨(by show 2 ≤ sizeLine; decide), fun p12 hp12 => ?_⟩
    have Mp12 := Mp11.grow (o := .tup [.str "power", .int 1]) hp12
    have gp12 := Mp11.sm.free hp12
    refine ⟨(by show 1 ≤ sizeLine; decide), fun p13 hp13 => ?_⟩
    have Mp13 := Mp12.grow (o := .tup [.non]) hp13
    have gp13 := Mp12.sm.free hp13
    refine ⟨(by show 1 ≤ sizeLine; decide), fun p14 hp14 => ?_⟩
    have Mp14 := Mp13.grow (o := .tup [.int 0]) hp14
    have gp14 := Mp13.sm.free hp14
    refine ⟨(by show 1 ≤ sizeLine; decide), fun p15 hp15 => ?_⟩
    have Mp15 := Mp14.grow (o := .tup [.int 0]) hp15
    have gp15 := Mp14.sm.free hp15
    refine ⟨(by show 1 ≤ sizeLine; decide), fun p16 hp16 => ?_⟩
    have Mp16 := Mp15.grow (o := .tup [.int 1]) hp16
    have gp16 := Mp15.sm.free hp16
    refine ⟨(by show 2 ≤ sizeLine; decide), fun p17 hp17 => ?_⟩
    have Mp17 := Mp16.grow (o := .tup [.ref p15, .ref p16]) hp17
    have gp17 := Mp16.sm.free hp17
    refine ⟨(by show 10 ≤ sizeLine; decide), fun p18 hp18 => ?_⟩
    have Mp18 := Mp17.grow (o := .lst [.ref p7, .ref p8, .ref p9, .int (10 ^ 30), .ref p10, .ref p11, .ref p12, .ref p13, .ref p14, .ref p17]) hp18
    have gp18 := Mp17.sm.free hp18
    have wp6 := Mp18.sm _ _ (((same_new gp7).trans ((same_new gp8).trans ((same_new gp9).trans ((same_new gp10).trans ((same_new gp11).trans ((same_new gp12).trans ((same_new gp13).trans ((same_new gp14).trans ((same_new gp15).trans ((same_new gp16).trans ((same_new gp17).trans (same_new gp18)))))))))))) _ _ upd_same)
    have wp18 := Mp18.sm _ _ (upd_same)
    refine ⟨p6, p18, _, _, rfl, rfl, wp6, wp18, (by show 28 ≤ sizeLine; decide), fun p19 hp19 => ?_⟩
    have Mp19 := Mp18.grow (o := .lst [.non, .int 0, .int 1, .int 2, .int 3, .int (-1), .int 10, .int (-10), .bl true, .bl false, .str "", .str "a", .str "nil", .str "power", .str "factor", .ref p1, .ref p3, .ref p5, .ref p7, .ref p8, .ref p9, .int (10 ^ 30), .ref p10, .ref p11, .ref p12, .ref p13, .ref p14, .ref p17]) hp19
    have gp19 := Mp18.sm.free hp19
    have Sp18 := same_new (o := .lst [.non, .int 0, .int 1, .int 2, .int 3, .int (-1), .int 10, .int (-10), .bl true, .bl false, .str "", .str "a", .str "nil", .str "power", .str "factor", .ref p1, .ref p3, .ref p5, .ref p7, .ref p8, .ref p9, .int (10 ^ 30), .ref p10, .ref p11, .ref p12, .ref p13, .ref p14, .ref p17]) gp19
    have Sp17 := (same_new (o := .lst [.ref p7, .ref p8, .ref p9, .int (10 ^ 30), .ref p10, .ref p11, .ref p12, .ref p13, .ref p14, .ref p17]) gp18).trans Sp18
    have Sp16 := (same_new (o := .tup [.ref p15, .ref p16]) gp17).trans Sp17
    have Sp15 := (same_new (o := .tup [.int 1]) gp16).trans Sp16
    have Sp14 := (same_new (o := .tup [.int 0]) gp15).trans Sp15
    have Sp13 := (same_new (o := .tup [.int 0]) gp14).trans Sp14
    have Sp12 := (same_new (o := .tup [.non]) gp13).trans Sp13
    have Sp11 := (same_new (o := .tup [.str "power", .int 1]) gp12).trans Sp12
    have Sp10 := (same_new (o := .tup [.int 0, .int 1]) gp11).trans Sp11
    have Sp9 := (same_new (o := .tup [.str "nil"]) gp10).trans Sp10
    have Sp8 := (same_new (o := .dK []) gp9).trans Sp9
    have Sp7 := (same_new (o := .lst []) gp8).trans Sp8
    have Sp6 := (same_new (o := .tup [.str "a", .int 0]) gp7).trans Sp7
    have Sp5 := (same_new (o := .lst [.non, .int 0, .int 1, .int 2, .int 3, .int (-1), .int 10, .int (-10), .bl true, .bl false, .str "", .str "a", .str "nil", .str "power", .str "factor", .ref p1, .ref p3, .ref p5]) gp6).trans Sp6
    have Sp4 := (same_new (o := .tup [.ref p4]) gp5).trans Sp5
    have Sp3 := (same_new (o := .tup [.int 1]) gp4).trans Sp4
    have Sp2 := (same_new (o := .tup [.ref p2]) gp3).trans Sp3
    have Sp1 := (same_new (o := .tup []) gp2).trans Sp2
    have S0 := (same_new (o := .tup []) gp1).trans Sp1
    have up1 := Sp1 _ _ upd_same
    have up2 := Sp2 _ _ upd_same
    have up3 := Sp3 _ _ upd_same
    have up4 := Sp4 _ _ upd_same
    have up5 := Sp5 _ _ upd_same
    have up6 := Sp6 _ _ upd_same
    have up7 := Sp7 _ _ upd_same
    have up8 := Sp8 _ _ upd_same
    have up9 := Sp9 _ _ upd_same
    have up10 := Sp10 _ _ upd_same
    have up11 := Sp11 _ _ upd_same
    have up12 := Sp12 _ _ upd_same
    have up13 := Sp13 _ _ upd_same
    have up14 := Sp14 _ _ upd_same
    have up15 := Sp15 _ _ upd_same
    have up16 := Sp16 _ _ upd_same
    have up17 := Sp17 _ _ upd_same
    have up18 := Sp18 _ _ upd_same
    refine ⟨_, rfl, _, rfl, m, 28, _, Tm, rfl, Mp19, hT, by decide, by decide, fun r H' r0 r1 Mz => ?_⟩
    have eL := Mz.sm _ _ (upd_same (a := p19))
    obtain ⟨v, hv, hm⟩ := mod_at (xs := [.non, .int 0, .int 1, .int 2, .int 3, .int (-1), .int 10, .int (-10), .bl true, .bl false, .str "", .str "a", .str "nil", .str "power", .str "factor", .ref p1, .ref p3, .ref p5, .ref p7, .ref p8, .ref p9, .int (10 ^ 30), .ref p10, .ref p11, .ref p12, .ref p13, .ref p14, .ref p17]) (j := r) r0 r1
    refine ⟨p19, _, r, v, rfl, rfl, SqL.of eL, hv, ?_⟩
    have all : Paired (Dq K _) _ oddList := (.cons (.inl .non) (.cons (.inl (.int _)) (.cons (.inl (.int _)) (.cons (.inl (.int _)) (.cons (.inl (.int _)) (.cons (.inl (.int _)) (.cons (.inl (.int _)) (.cons (.inl (.int _)) (.cons (.inl (.bl _)) (.cons (.inl (.bl _)) (.cons (.inl (.str _)) (.cons (.inl (.str _)) (.cons (.inl (.str _)) (.cons (.inl (.str _)) (.cons (.inl (.str _)) (.cons (.inl (.tup (SqT.of up1) .nil)) (.cons (.inl (.tup (SqT.of up3) (.cons (.tup (SqT.of up2) .nil) .nil))) (.cons (.inl (.tup (SqT.of up5) (.cons (.tup (SqT.of up4) (.cons (.int _) .nil)) .nil))) (.cons (.inl (.tup (SqT.of up7) (.cons (.str _) (.cons (.int _) .nil)))) (.cons (.inl (.lst (SqL.of up8) .nil)) (.cons (.inr (.dct up9)) (.cons (.inl (.int _)) (.cons (.inl (.tup (SqT.of up10) (.cons (.str _) .nil))) (.cons (.inl (.tup (SqT.of up11) (.cons (.int _) (.cons (.int _) .nil)))) (.cons (.inl (.tup (SqT.of up12) (.cons (.str _) (.cons (.int _) .nil)))) (.cons (.inl (.tup (SqT.of up13) (.cons .non .nil))) (.cons (.inl (.tup (SqT.of up14) (.cons (.int _) .nil))) (.cons (.inl (.tup (SqT.of up17) (.cons (.tup (SqT.of up15) (.cons (.int _) .nil)) (.cons (.tup (SqT.of up16) (.cons (.int _) .nil)) .nil)))) .nil))))))))))))))))))))))))))))
    obtain ⟨d, hd, dq⟩ := pick_of all v hm
    exact k v d _ H' S0 dq hd Mz
end
end G

set_option Elab.async false
set_option maxRecDepth 100000
/-! t[::-1] of a tuple. -/
namespace G
open PySem L2 PySem.Spec PyProof.Rows HT
section
variable {prog : Program} {w : World} {A : Around} {E : Value → Shared → Prop} {s : Shared}
theorem back_places (n : Nat) : Builtin.Slice.slicePlaces ((n : Int) - 1) (-1) (-1) = n := by
  unfold Builtin.Slice.slicePlaces
  rw [if_neg (by decide)]
  by_cases h : (n : Int) - 1 > -1
  · rw [if_pos h]
    have e : ((n : Int) - 1 - -1 - 1) / (- -1) + 1 = (n : Int) := by
      rw [show (- -1 : Int) = 1 by decide, Int.ediv_one]
      omega
    rw [e]
    exact Int.toNat_natCast n
  · rw [if_neg h]
    have e : n = 0 := by omega
    subst e
    rfl
theorem back_applied {sl : Addr} {n : Nat} {t : Tok} {Q : Int × Int × Nat → Shared → Prop} (hs : s.heap.IsSliceOf sl .none .none (.int (-1) t))
    (h : Q ((n : Int) - 1, -1, n) s) : wpAny (model prog w) A (Builtin.Slice.sliceApplied (.ref sl) (pure (n : Int))) Q E s := by
  obtain ⟨os, h1, h2, h3⟩ := id hs
  unfold Builtin.Slice.sliceApplied Builtin.Slice.sliceFields
  refine wpAny_bind (wpAny_bind (wpAny_field h1 h3 (x := .none) rfl
    (wpAny_bind (wpAny_field h1 h3 (x := .none) rfl
      (wpAny_bind (wpAny_field h1 h3 (x := .int (-1) t) rfl (wpAny_pure ?_)))))))
  refine wpAny_bind (slicePart_int ?_)
  show wpAny _ _ (if ((-1 : Int) == 0) = true then _ else _) _ _ s
  rw [if_neg (by decide)]
  refine wpAny_bind (slicePart_none (wpAny_bind (slicePart_none
    (wpAny_bind (wpAny_pure ?_)))))
  have e : Builtin.Slice.sliceAdjust none none (-1) (n : Int) = ((n : Int) - 1, -1) := rfl
  show wpAny _ _ (match Builtin.Slice.sliceAdjust none none (-1) (n : Int) with | (lo, hi) => pure (lo, (-1 : Int), Builtin.Slice.slicePlaces lo hi (-1))) _ _ s
  rw [e]
  show wpAny _ _ (pure ((n : Int) - 1, (-1 : Int), Builtin.Slice.slicePlaces ((n : Int) - 1) (-1) (-1))) _ _ s
  rw [back_places]
  exact wpAny_pure h
theorem fm_congr {α β : Type} {f g : α → Option β} : ∀ {l : List α}, (∀ a ∈ l, f a = g a) → l.filterMap f = l.filterMap g
  | [], _ => rfl
  | a :: l, h => by
    rw [List.filterMap_cons, List.filterMap_cons, h a (List.mem_cons_self ..), fm_congr fun b hb => h b (List.mem_cons_of_mem _ hb)]
theorem back_pick (xs : Array Value) : ((List.range xs.size).filterMap fun (m : Nat) => xs[((xs.size : Int) - 1 + (m : Int) * -1).toNat]?).toArray = xs.toList.reverse.toArray := by
  have e : ∀ m ∈ List.range xs.size, xs[((xs.size : Int) - 1 + (m : Int) * -1).toNat]? = xs[xs.size - 1 - m]? := fun m hm => by
    have := List.mem_range.mp hm
    have q : ((xs.size : Int) - 1 + (m : Int) * -1).toNat = xs.size - 1 - m := by omega
    rw [q]
  rw [fm_congr e]
  have f : (List.range xs.size).filterMap (fun m => xs[xs.size - 1 - m]?) = ((List.range xs.size).map fun k => xs.size - 1 - k).filterMap (xs[·]?) := by
    rw [List.filterMap_map]
    rfl
  rw [f, PySem.W.krv_range, List.filterMap_reverse, PySem.W.krv_all]
theorem back_tuple {t sl : Addr} {items : Array Value} {tk : Tok} {Q : Value → Shared → Prop} (ht : IsTup s.heap t items) (hs : s.heap.IsSliceOf sl .none .none (.int (-1) tk))
    (hz : items.size ≤ sizeLine) (h : Q (.ref s.heap.objs.size) { s with heap := s.heap.push { cls := .type "tuple", data := .seq items.toList.reverse.toArray } }) :
    wpAny (model prog w) A (getItem (.ref t) (.ref sl)) Q E s := by
  have fits : sizeOk (.seq items.toList.reverse.toArray) := by
    show items.toList.reverse.toArray.size ≤ sizeLine
    rw [List.size_toArray, List.length_reverse, Array.length_toList]
    exact hz
  obtain ⟨os, h1, h2, h3⟩ := id hs
  have ty : s.TypeIs (.ref sl) "slice" := ⟨os, h1, h2⟩
  unfold getItem
  try with_reducible refine wpAny_holding ?_
  first
    | refine wpAny_bind (wpAny_pure ?_)
    | skip
  refine wpAny_bind (wpAny_sequenceKey ht.typeIs (by decide) ?_)
  refine wpAny_bind (wpAny_callSpecial?_slot (name := Str.ofString "__getitem__") ht.typeIs slot_tuple_getitem
    (wpAny_call_entry slot_tuple_getitem ht.typeIs entry_tuple_getitem ?_ (args_tuple_getitem _ _)))
  show wpAny _ _ (Builtin.Tuple.tupleItemsOf (.ref t) >>= _) _ _ s
  refine wpAny_bind (tupleItemsOf_ ht ?_)
  refine wpAny_bind (wpAny_typeOf ty ?_)
  rw [if_pos (by decide)]
  refine wpAny_bind (back_applied hs ?_)
  have no : ¬ (((((items.size : Nat) : Int) - 1) == 0 && (-1 : Int) == 1 && items.size == items.size) = true) := by
    intro q
    rw [Bool.and_eq_true, Bool.and_eq_true] at q
    exact absurd q.1.2 (by decide)
  show wpAny _ _ (if ((((items.size : Nat) : Int) - 1) == 0 && (-1 : Int) == 1 && items.size == items.size) = true then _ else _) _ _ s
  rw [if_neg no, back_pick]
  first
    | exact wpAny_bind (m := Builtin.Tuple.tupleExact _) (wpAny_newObj_type (wpAny_pure ⟨_, rfl, wpAny_pure h⟩) fits)
    | exact wpAny_bind (m := Builtin.Tuple.tupleExact _) (wpAny_newObj_type (wpAny_bind (wpAny_pure (wpAny_pure ⟨_, rfl, wpAny_pure h⟩))) fits)
    | exact wpAny_bind (wpAny_bind (m := Builtin.Tuple.tupleExact _) (wpAny_newObj_type (wpAny_pure (wpAny_pure ⟨_, rfl, wpAny_pure h⟩)) fits))
    | exact wpAny_bind (wpAny_bind (m := Builtin.Tuple.tupleExact _) (wpAny_newObj_type (wpAny_pure ⟨_, rfl, wpAny_pure h⟩) fits))
end
/-- t[::-1] -/
def tRevT (K : PySem.W.Frag) (te : TE) : TE := fun σ H Q => te σ H fun x H1 => ∃ a xs, x = .ref a ∧ SqT K H1 a xs ∧ ∀ p, H1 p = none → Q (.ref p) (upd H1 p (.tup xs.reverse))
theorem pe_revT {X : Cx} {e : Expr} {te : TE} {k : Nat} {p1 p2 p3 pos : Pos} (he : PE X e te) :
    PE X (.Subscript e (.Slice none none (some (.UnaryOp .USub (.Constant (.int 1) k p1) p2)) p3) pos) (tRevT X.K te) := by
  refine ⟨fun pins s σ H Q I h => ?_⟩
  refine Subscript_ (thn (he.run pins s σ H _ I h) fun v s1 ⟨x, H1, I1, r1, a, xs, ex, hx, q⟩ => ?_)
  subst ex
  have ev : v = Value.ref a := r1
  subst ev
  have st : PO X (some (.UnaryOp .USub (.Constant (.int 1) k p1) p2)) (tPart (tUn (rU fun i => .int (-i)) (tC (.int 1)))) :=
    po_some (pe_un un_neg pe_int)
  refine wpAny_Slice (thn (po_none.run pins s1 σ H1 (fun o H2 => o = none ∧ H2 = H1) I1 ⟨rfl, rfl⟩) fun vl s2 ⟨l, H2, I2, pl, el, e2⟩ => ?_)
  subst el e2
  refine thn (po_none.run pins s2 σ H2 (fun o H3 => o = none ∧ H3 = H2) I2 ⟨rfl, rfl⟩) fun vu s3 ⟨u, H3, I3, pu, eu, e3⟩ => ?_
  subst eu e3
  refine thn (st.run pins s3 σ H3 (fun o H4 => o = some (-1) ∧ H4 = H3) I3 ⟨1, rfl, -1, rfl, rfl, rfl⟩) fun vs s4 ⟨o, H4, I4, ps, eo, e4⟩ => ?_
  subst eo e4
  have I5 : Inv X pins σ H4 { s4 with heap := s4.heap.push { cls := .type "slice", data := .fields #[vl, vu, vs] } } :=
    I4.kept (t' := s4.toks) fun b ob q => Heap.get?_push_of_some _ q
  obtain ⟨its, r, ht, hz⟩ := I5.tuple hx
  have ln := r.length
  cases pl with
  | none =>
  cases pu with
  | none =>
  cases ps with
  | int i tk =>
    show wpAny _ _ (subscriptTail e _ (.ref a) (.ref s4.heap.objs.size)) _ _ _
    refine tail_any (ops := [.ref a, .ref s4.heap.objs.size]) ht.typeIs slot_tuple_getitem.lookup ?_ (by with_unfolding_all rfl)
    refine back_tuple ht (Heap.IsSliceOf.new _ _ _ _) (by rw [List.size_toArray]; omega) ?_
    refine ⟨.ref _, _, I5.laid (t' := s4.toks) (o := .tup xs.reverse) (fun b ob q => Heap.get?_push_of_some _ q) (Nat.le_refl _) ?_, rfl, q _ (I5.hok.fresh (Nat.le_refl _))⟩
    exact ⟨by rw [List.length_reverse]; exact hz, _, r.reverse, IsTup.new _ _⟩
end G

set_option Elab.async false
set_option maxRecDepth 100000
/-! Data of ints and tuples; what is told of a datum's size; tuples cut and put together. -/
namespace G
open PySem L2 PySem.Spec PyProof.Rows
/-! ### pairs of lists -/
section
variable {α β : Type} {F : α → β → Prop}
theorem pr_app : ∀ {xs xs' : List α} {ys ys' : List β}, Paired F xs ys → Paired F xs' ys' → Paired F (xs ++ xs') (ys ++ ys')
  | _, _, _, _, .nil, h => h
  | _, _, _, _, .cons r t, h => .cons r (pr_app t h)
theorem pr_take : ∀ {xs : List α} {ys : List β} (n : Nat), Paired F xs ys → Paired F (xs.take n) (ys.take n)
  | _, _, 0, _ => .nil
  | _, _, _ + 1, .nil => .nil
  | _, _, n + 1, .cons r t => .cons r (pr_take n t)
theorem pr_drop : ∀ {xs : List α} {ys : List β} (n : Nat), Paired F xs ys → Paired F (xs.drop n) (ys.drop n)
  | _, _, 0, h => h
  | _, _, _ + 1, .nil => .nil
  | _, _, n + 1, .cons _ t => pr_drop n t
theorem pr_rev : ∀ {xs : List α} {ys : List β}, Paired F xs ys → Paired F xs.reverse ys.reverse
  | _, _, .nil => .nil
  | _, _, .cons r t => by
    rw [List.reverse_cons, List.reverse_cons]
    exact pr_app (pr_rev t) (.cons r .nil)
theorem pr_len : ∀ {xs : List α} {ys : List β}, Paired F xs ys → xs.length = ys.length
  | _, _, .nil => rfl
  | _, _, .cons _ t => by rw [List.length_cons, List.length_cons, pr_len t]
theorem pr_get : ∀ {xs : List α} {ys : List β} {i : Nat} {x : α}, Paired F xs ys → xs[i]? = some x → ∃ y, ys[i]? = some y ∧ F x y
  | _, _, _, _, .nil, h => by simp at h
  | _, _, 0, _, .cons r _, h => by
    simp at h
    subst h
    exact ⟨_, rfl, r⟩
  | _, _, i + 1, _, .cons _ t, h => by
    obtain ⟨y, h1, h2⟩ := pr_get (i := i) t (by simpa using h)
    exact ⟨y, by simpa using h1, h2⟩
theorem pr_map {F' : α → β → Prop} (f : ∀ a b, F a b → F' a b) : ∀ {xs : List α} {ys : List β}, Paired F xs ys → Paired F' xs ys
  | _, _, .nil => .nil
  | _, _, .cons r t => .cons (f _ _ r) (pr_map f t)
theorem pr_mem : ∀ {xs : List α} {ys : List β}, Paired F xs ys → ∀ y ∈ ys, ∃ x ∈ xs, F x y
  | _, _, .nil, _, h => nomatch h
  | _, _, .cons r t, y, h => by
    rcases List.mem_cons.mp h with e | e
    · subst e
      exact ⟨_, List.mem_cons_self .., r⟩
    · obtain ⟨x, h1, h2⟩ := pr_mem t y e
      exact ⟨x, List.mem_cons_of_mem _ h1, h2⟩
end
theorem dpAll_of {K : PySem.W.Frag} {H : Hp} : ∀ {xs : List V} {ds : List PyData}, Paired (Dp K H) xs ds → DpAll K H xs ds
  | _, _, .nil => .nil
  | _, _, .cons r t => .cons r (dpAll_of t)
theorem of_dpAll {K : PySem.W.Frag} {H : Hp} : ∀ {ds : List PyData} {xs : List V}, DpAll K H xs ds → Paired (Dp K H) xs ds
  | [], _, h => by cases h; exact .nil
  | d :: ds, _, h => by
    cases h with
    | cons h1 h2 => exact .cons h1 (of_dpAll h2)
theorem ddAll_of {K : PySem.W.Frag} {H : Hp} : ∀ {xs : List V} {ds : List PyData}, Paired (Dd K H) xs ds → DdAll K H xs ds
  | _, _, .nil => .nil
  | _, _, .cons r t => .cons r (ddAll_of t)
/-! ### ints and tuples -/
mutual
inductive Pt (K : PySem.W.Frag) (H : Hp) : V → PyData → Prop
  | int (i : Int) (h : i.natAbs ≤ 1000) : Pt K H (.int i) (.int i)
  | tup {a : Addr} {xs : List V} {ds : List PyData} : SqT K H a xs → PtAll K H xs ds → Pt K H (.ref a) (.tuple ds)
inductive PtAll (K : PySem.W.Frag) (H : Hp) : List V → List PyData → Prop
  | nil : PtAll K H [] []
  | cons {v : V} {vs : List V} {d : PyData} {ds : List PyData} : Pt K H v d → PtAll K H vs ds → PtAll K H (v :: vs) (d :: ds)
end
section
variable {K : PySem.W.Frag} {H H' : Hp}
theorem ptAll_of : ∀ {xs : List V} {ds : List PyData}, Paired (Pt K H) xs ds → PtAll K H xs ds
  | _, _, .nil => .nil
  | _, _, .cons r t => .cons r (ptAll_of t)
theorem of_ptAll : ∀ {ds : List PyData} {xs : List V}, PtAll K H xs ds → Paired (Pt K H) xs ds
  | [], _, h => by cases h; exact .nil
  | d :: ds, _, h => by
    cases h with
    | cons h1 h2 => exact .cons h1 (of_ptAll h2)
mutual
theorem Pt.dp : ∀ {d : PyData} {v : V}, Pt K H v d → Dp K H v d
  | .none, _, h => by cases h
  | .bool _, _, h => by cases h
  | .int _, _, h => by cases h; exact .int _
  | .str _, _, h => by cases h
  | .list _, _, h => by cases h
  | .tuple ds, _, h => by
    cases h with
    | tup h1 h2 => exact .tup h1 (PtAll.dp h2)
  | .dict _, _, h => by cases h
theorem PtAll.dp : ∀ {ds : List PyData} {vs : List V}, PtAll K H vs ds → DpAll K H vs ds
  | [], _, h => by cases h; exact .nil
  | d :: ds, _, h => by
    cases h with
    | cons h1 h2 => exact .cons (Pt.dp h1) (PtAll.dp h2)
end
mutual
theorem Pt.dd : ∀ {d : PyData} {v : V}, Pt K H v d → Dd K H v d
  | .none, _, h => by cases h
  | .bool _, _, h => by cases h
  | .int _, _, h => by cases h; exact .int _
  | .str _, _, h => by cases h
  | .list _, _, h => by cases h
  | .tuple ds, _, h => by
    cases h with
    | tup h1 h2 => exact .tup h1 (PtAll.dd h2)
  | .dict _, _, h => by cases h
theorem PtAll.dd : ∀ {ds : List PyData} {vs : List V}, PtAll K H vs ds → DdAll K H vs ds
  | [], _, h => by cases h; exact .nil
  | d :: ds, _, h => by
    cases h with
    | cons h1 h2 => exact .cons (Pt.dd h1) (PtAll.dd h2)
end
mutual
theorem Pt.same (e : Same H H') : ∀ {d : PyData} {v : V}, Pt K H v d → Pt K H' v d
  | .none, _, h => by cases h
  | .bool _, _, h => by cases h
  | .int _, _, h => by
    cases h with
    | int _ h => exact .int _ h
  | .str _, _, h => by cases h
  | .list _, _, h => by cases h
  | .tuple ds, _, h => by
    cases h with
    | tup h1 h2 => exact .tup (sqT_same e h1) (PtAll.same e h2)
  | .dict _, _, h => by cases h
theorem PtAll.same (e : Same H H') : ∀ {ds : List PyData} {vs : List V}, PtAll K H vs ds → PtAll K H' vs ds
  | [], _, h => by cases h; exact .nil
  | d :: ds, _, h => by
    cases h with
    | cons h1 h2 => exact .cons (Pt.same e h1) (PtAll.same e h2)
end
mutual
theorem Pt.lay : ∀ {d : PyData} {v : V}, Pt K H v d → d.canLay0 = true
  | .none, _, h => by cases h
  | .bool _, _, h => by cases h
  | .int _, _, h => by simp [PyData.canLay0]
  | .str _, _, h => by cases h
  | .list _, _, h => by cases h
  | .tuple ds, _, h => by
    cases h with
    | tup h1 h2 =>
      simp only [PyData.canLay0]
      exact PtAll.lay h2
  | .dict _, _, h => by cases h
theorem PtAll.lay : ∀ {ds : List PyData} {vs : List V}, PtAll K H vs ds → PyData.canLayAll0 ds = true
  | [], _, h => by simp [PyData.canLayAll0]
  | d :: ds, _, h => by
    cases h with
    | cons h1 h2 => simp [PyData.canLayAll0, Pt.lay h1, PtAll.lay h2]
end
/-- a tuple of data of either sort, one of which may be anything -/
theorem dq_tup {a : Addr} {xs ys : List V} {ds es : List PyData} {v : V} {d : PyData} (ht : SqT K H a (xs ++ [v] ++ ys)) (h1 : Paired (Pt K H) xs ds) (h : Dq K H v d) (h2 : Paired (Pt K H) ys es) :
    Dq K H (.ref a) (.tuple (ds ++ [d] ++ es)) := by
  rcases h with h | h
  · exact .inl (.tup ht (dpAll_of (pr_app (pr_app (pr_map (fun _ _ => Pt.dp) h1) (.cons h .nil)) (pr_map (fun _ _ => Pt.dp) h2))))
  · exact .inr (.tup ht (ddAll_of (pr_app (pr_app (pr_map (fun _ _ => Pt.dd) h1) (.cons h .nil)) (pr_map (fun _ _ => Pt.dd) h2))))
end
/-! ### the size of a datum -/
/-- an int of a datum -/
structure Nice (n k : Nat) (d : PyData) : Prop where
  sh : d.showable = true
  lf : d.leavesShort 200 = true
  wt : d.weight ≤ n
  dp : d.depth ≤ k
structure NiceL (n k : Nat) (ds : List PyData) : Prop where
  sh : PyData.showableAll ds = true
  lf : PyData.leavesShortAll 200 ds = true
  wt : PyData.weightAll ds ≤ n
  dp : PyData.depthAll ds ≤ k
theorem niceL_nil {n k : Nat} : NiceL n k [] := ⟨by simp [PyData.showableAll], by simp [PyData.leavesShortAll], by simp [PyData.weightAll], by simp [PyData.depthAll]⟩
theorem niceL_cons {n k a : Nat} {d : PyData} {ds : List PyData} (h : Nice a k d) (t : NiceL n k ds) : NiceL (a + 1 + n) k (d :: ds) :=
  ⟨by simp [PyData.showableAll, h.sh, t.sh], by simp [PyData.leavesShortAll, h.lf, t.lf], by
    have := h.wt
    have := t.wt
    simp only [PyData.weightAll]
    omega, by
    have := h.dp
    have := t.dp
    simp only [PyData.depthAll]
    omega⟩
theorem niceL_head {n k : Nat} {d : PyData} {ds : List PyData} (t : NiceL n k (d :: ds)) : Nice n k d ∧ ∃ a b, Nice a k d ∧ NiceL b k ds ∧ a + 1 + b ≤ n := by
  have h1 := t.sh
  have h2 := t.lf
  have h3 := t.wt
  have h4 := t.dp
  simp only [PyData.showableAll, PyData.leavesShortAll, PyData.weightAll, PyData.depthAll, Bool.and_eq_true] at h1 h2 h3 h4
  exact ⟨⟨h1.1, h2.1, by omega, by omega⟩, d.weight, PyData.weightAll ds, ⟨h1.1, h2.1, Nat.le_refl _, by omega⟩, ⟨h1.2, h2.2, Nat.le_refl _, by omega⟩, h3⟩
theorem Nice.mono {n n' k k' : Nat} {d : PyData} (h : Nice n k d) (a : n ≤ n') (b : k ≤ k') : Nice n' k' d := ⟨h.sh, h.lf, Nat.le_trans h.wt a, Nat.le_trans h.dp b⟩
theorem NiceL.mono {n n' k k' : Nat} {ds : List PyData} (h : NiceL n k ds) (a : n ≤ n') (b : k ≤ k') : NiceL n' k' ds := ⟨h.sh, h.lf, Nat.le_trans h.wt a, Nat.le_trans h.dp b⟩
theorem niceL_app {k : Nat} : ∀ {n m : Nat} {ds es : List PyData}, NiceL n k ds → NiceL m k es → NiceL (n + m) k (ds ++ es)
  | n, m, [], es, _, h => h.mono (by omega) (Nat.le_refl _)
  | n, m, d :: ds, es, t, h => by
    obtain ⟨_, a, b, h1, h2, h3⟩ := niceL_head t
    exact (niceL_cons h1 (niceL_app h2 h)).mono (by omega) (Nat.le_refl _)
theorem niceL_take {k : Nat} : ∀ {n : Nat} {ds : List PyData} (j : Nat), NiceL n k ds → NiceL n k (ds.take j)
  | _, _, 0, _ => niceL_nil
  | _, [], _ + 1, _ => niceL_nil
  | n, d :: ds, j + 1, t => by
    obtain ⟨_, a, b, h1, h2, h3⟩ := niceL_head t
    exact (niceL_cons h1 (niceL_take j h2)).mono (by omega) (Nat.le_refl _)
theorem niceL_drop {k : Nat} : ∀ {n : Nat} {ds : List PyData} (j : Nat), NiceL n k ds → NiceL n k (ds.drop j)
  | _, _, 0, h => h
  | _, [], _ + 1, _ => niceL_nil
  | n, d :: ds, j + 1, t => by
    obtain ⟨_, a, b, h1, h2, h3⟩ := niceL_head t
    exact (niceL_drop j h2).mono (by omega) (Nat.le_refl _)
theorem niceL_rev {k : Nat} : ∀ {n : Nat} {ds : List PyData}, NiceL n k ds → NiceL n k ds.reverse
  | _, [], _ => niceL_nil
  | n, d :: ds, t => by
    obtain ⟨_, a, b, h1, h2, h3⟩ := niceL_head t
    rw [List.reverse_cons]
    exact (niceL_app (niceL_rev h2) (niceL_cons (n := 0) h1 niceL_nil)).mono (by omega) (Nat.le_refl _)
theorem nice_tup {n k : Nat} {ds : List PyData} (h : NiceL n k ds) : Nice n (k + 1) (.tuple ds) :=
  ⟨by simp only [PyData.showable, h.sh], by simp only [PyData.leavesShort, h.lf], by simp only [PyData.weight, h.wt], by
    have := h.dp
    simp only [PyData.depth]
    omega⟩
theorem nice_lst {n k : Nat} {ds : List PyData} (h : NiceL n k ds) : Nice n (k + 1) (.list ds) :=
  ⟨by simp only [PyData.showable, h.sh], by simp only [PyData.leavesShort, h.lf], by simp only [PyData.weight, h.wt], by
    have := h.dp
    simp only [PyData.depth]
    omega⟩
theorem niceL_of {n k : Nat} {ds : List PyData} (h : Nice n (k + 1) (.tuple ds)) : NiceL n k ds := by
  have h1 := h.sh
  have h2 := h.lf
  have h3 := h.wt
  have h4 := h.dp
  simp only [PyData.showable, PyData.leavesShort, PyData.weight, PyData.depth] at h1 h2 h3 h4
  exact ⟨h1, h2, h3, by omega⟩
/-- the two parts around one place, and the one -/
theorem niceL_split {k : Nat} : ∀ {n : Nat} {ds : List PyData} {j : Nat} {d : PyData}, NiceL n k ds → ds[j]? = some d → ∃ a b c, NiceL a k (ds.take j) ∧ Nice b k d ∧ NiceL c k (ds.drop (j + 1)) ∧ a + (b + 1) + c ≤ n
  | _, [], _, _, _, h => by simp at h
  | n, d :: ds, 0, e, t, h => by
    obtain ⟨_, a, b, h1, h2, h3⟩ := niceL_head t
    simp at h
    subst h
    exact ⟨0, a, b, niceL_nil, h1, h2, by omega⟩
  | n, d :: ds, j + 1, e, t, h => by
    obtain ⟨_, a, b, h1, h2, h3⟩ := niceL_head t
    obtain ⟨a', b', c', g1, g2, g3, g4⟩ := niceL_split (j := j) h2 (by simpa using h)
    exact ⟨a + 1 + a', b', c', niceL_cons h1 g1, g2, g3, by omega⟩
theorem nice_int {i : Int} (h : i.natAbs < 2 ^ 13) : Nice 14 0 (.int i) := by
  have h99 : i.natAbs < 10 ^ 99 := Nat.lt_of_lt_of_le h (by decide)
  have hl : i.natAbs.log2 < 1920 := by
    by_cases h0 : i.natAbs = 0
    · rw [h0]
      decide
    · have := (Nat.log2_lt h0).mpr h
      omega
  refine ⟨by simp only [PyData.showable, decide_eq_true_eq]; exact hl, ?_, ?_, by simp [PyData.depth]⟩
  · simp only [PyData.leavesShort, PyData.shown]
    have q := int_text_length_le10 (k := 99) (by decide) h99
    refine decide_eq_true ?_
    show (Str.ofString (toString i)).length ≤ 200
    rw [PySem.ofString_length]
    omega
  · simp only [PyData.weight]
    split
    · omega
    · have h0 : i.natAbs ≠ 0 := by
        intro z
        have e : i = 0 := by omega
        subst e
        rename_i q
        exact q rfl
      have := (Nat.log2_lt h0).mpr h
      omega
theorem Nice.len {n k : Nat} {d : PyData} (h : Nice n k d) : d.shown.length ≤ 202 * n + 200 := by
  have q := PyData.shown_le 200 (by decide) d h.lf
  have := h.wt
  have e : (200 + 2) * d.weight ≤ 202 * n := Nat.mul_le_mul_left 202 h.wt
  omega
end G

set_option Elab.async false
set_option maxRecDepth 100000
namespace G
open PySem L2 PySem.Spec PyProof.Rows
/-! ### isinstance of data -/
def tyName : PyData → String
  | .none => "NoneType"
  | .bool _ => "bool"
  | .int _ => "int"
  | .str _ => "str"
  | .list _ => "list"
  | .tuple _ => "tuple"
  | .dict _ => "dict"
section
variable {K : PySem.W.Frag} {H : Hp} {v : V} {d : PyData} {Q : VK}
theorem ty_list {a : Addr} {xs : List V} (h : SqL K H a xs) : TyX K H (.ref a) (.type "list") := by
  rcases h with (h | ⟨o, h⟩) | ⟨o, its, n, h1, h2, _⟩
  · exact .base (.lst h)
  · exact .base (.frz h)
  · exact .kList h1 h2
theorem ty_tup {a : Addr} {xs : List V} (h : SqT K H a xs) : TyX K H (.ref a) (.type "tuple") := by
  rcases h with (h | ⟨o, h⟩) | ⟨o, its, n, h1, h2, _⟩
  · exact .base (.tup h)
  · exact .fTuple h
  · exact .kTuple h1 h2
theorem ty_dq (h : Dq K H v d) : TyX K H v (.type (tyName d)) := by
  rcases h with h | h
  · cases h with
    | non => exact .base .non
    | bl b => exact .base (.bl b)
    | int i => exact .base (.int i)
    | str x => exact .base (.str x)
    | lst h _ => exact ty_list h
    | tup h _ => exact ty_tup h
  · cases h with
    | non => exact .base .non
    | bl b => exact .base (.bl b)
    | int i => exact .base (.int i)
    | str x => exact .base (.str x)
    | tup h _ => exact ty_tup h
    | dct h => exact .base (.dK h)
def isI : PyData → Bool
  | .int _ => true
  | .bool _ => true
  | _ => false
def isB : PyData → Bool
  | .bool _ => true
  | _ => false
def isS : PyData → Bool
  | .str _ => true
  | _ => false
def isTu : PyData → Bool
  | .tuple _ => true
  | _ => false
def isLi : PyData → Bool
  | .list _ => true
  | _ => false
theorem kI (d : PyData) : PySem.W.kitOne K (.type (tyName d)) (.type "int") = some (isI d) := by cases d <;> exact kit_ty (by dsimp only [tyName, isI]; decide +kernel)
theorem kBo (d : PyData) : PySem.W.kitOne K (.type (tyName d)) (.type "bool") = some (isB d) := by cases d <;> exact kit_ty (by dsimp only [tyName, isB]; decide +kernel)
theorem kS (d : PyData) : PySem.W.kitOne K (.type (tyName d)) (.type "str") = some (isS d) := by cases d <;> exact kit_ty (by dsimp only [tyName, isS]; decide +kernel)
theorem kTu (d : PyData) : PySem.W.kitOne K (.type (tyName d)) (.type "tuple") = some (isTu d) := by cases d <;> exact kit_ty (by dsimp only [tyName, isTu]; decide +kernel)
theorem kLi (d : PyData) : PySem.W.kitOne K (.type (tyName d)) (.type "list") = some (isLi d) := by cases d <;> exact kit_ty (by dsimp only [tyName, isLi]; decide +kernel)
end
/-! ### tuples cut and put together, behind the caller's heap -/
section
variable {K : PySem.W.Frag} {G H : Hp} {m : Addr} {T : Int} {a b : Addr} {xs ys : List V} {Q : VK}
theorem sl_any {lo hi : Option Int} (M : Mst G H m T) (h : SqT K G a xs) (q : ∀ (c : Addr) (G' H' : Hp), Same G G' → Mst G' H' m T → SqT K G' c (cutV xs lo hi) → Q (.ref c) H') :
    rSlA K (.ref a) lo hi H Q := by
  refine ⟨a, xs, rfl, sqT_same M.sm h, fun w => ?_, fun w p hp => ?_⟩
  · refine q a G H (Same.refl _) M ?_
    have e : cutV xs lo hi = xs := by
      unfold cutV
      rw [w.1, w.2, List.drop_zero, Nat.sub_zero, List.take_length]
    rw [e]
    exact h
  · exact q p _ _ (same_new (M.sm.free hp)) (M.grow hp) (SqT.of upd_same)
theorem cat_any (M : Mst G H m T) (h : SqT K G a xs) (g : SqT K G b ys) (hz : xs.length + ys.length ≤ sizeLine) (q : ∀ (c : Addr) (G' H' : Hp), Same G G' → Mst G' H' m T → SqT K G' c (xs ++ ys) → Q (.ref c) H') :
    rCatA K (.ref a) (.ref b) H Q := by
  refine ⟨a, b, xs, ys, rfl, rfl, sqT_same M.sm h, sqT_same M.sm g, hz, fun e => ?_, fun _ e => ?_, fun _ _ p hp => ?_⟩
  · subst e
    exact q b G H (Same.refl _) M g
  · subst e
    refine q a G H (Same.refl _) M ?_
    rw [List.append_nil]
    exact h
  · exact q p _ _ (same_new (M.sm.free hp)) (M.grow hp) (SqT.of upd_same)
theorem cut_to {j : Nat} (h : j ≤ xs.length) : cutV xs none (some (j : Int)) = xs.take j := by
  unfold cutV
  rw [HT.sIx_none, HT.sIx_nat, List.drop_zero, Nat.sub_zero, Nat.min_eq_left h]
theorem cut_from {j : Nat} (h : j ≤ xs.length) : cutV xs (some (j : Int)) none = xs.drop j := by
  unfold cutV
  rw [HT.sIx_none, HT.sIx_nat, Nat.min_eq_left h]
  exact List.take_of_length_le (by rw [List.length_drop]; exact Nat.le_refl _)
theorem cut_one {j : Nat} (h : j < xs.length) : cutV xs (some (j : Int)) (some ((j : Int) + 1)) = (xs.drop j).take 1 := by
  unfold cutV
  have e : ((j : Int) + 1) = ((j + 1 : Nat) : Int) := by omega
  rw [e, HT.sIx_nat, HT.sIx_nat, Nat.min_eq_left (Nat.le_of_lt h), Nat.min_eq_left h]
  have : j + 1 - j = 1 := by omega
  rw [this]
end
/-- t == (), t of ints and tuples -/
def rEqT0 (K : PySem.W.Frag) : R2 := fun x y H Q => ∃ (v : V) (ds : List PyData) (b : Addr), x = v ∧ Pt K H v (.tuple ds) ∧ (PyData.tuple ds).depth ≤ 60 ∧ y = .ref b ∧ SqT K H b [] ∧ Q (.bl ds.isEmpty) H
section
variable {X : Cx}
theorem op_eqT0 (hu : X.A.units + 64 < cLine) : OpR X (compareOp .Eq) (rEqT0 X.K) := by
  intro pins s σ H x y v u Q I rx ry h
  obtain ⟨v', ds, b, rfl, hp, hd, rfl, hb, q⟩ := h
  have sh : SeqAt.shaped (.tuple ds) = true := by
    unfold SeqAt.shaped
    rw [Bool.and_eq_true, decide_eq_true_eq]
    exact ⟨hp.lay, by omega⟩
  refine op_eqD hu pins s σ H _ _ v u Q I rx ry ⟨.tuple ds, .tuple [], hp.dp, .tup hb .nil, sh, by decide +kernel, ?_⟩
  have e : PyData.eqv (.tuple ds) (.tuple []) = ds.isEmpty := by
    cases ds <;> simp [PyData.eqv, PyData.eqvAll]
  rw [e]
  exact q
end
/-! ### _law_bent -/
abbrev sBent : Stmt := top 20
theorem odd_nice : ∀ d ∈ oddList, Nice 150 2 d := by
  intro d hd
  have h : ∀ d ∈ oddList, (d.showable && d.leavesShort 200 && decide (d.weight ≤ 150) && decide (d.depth ≤ 2)) = true := by decide +kernel
  have q := h d hd
  simp only [Bool.and_eq_true, decide_eq_true_eq] at q
  exact ⟨q.1.1.1, q.1.1.2, q.1.2, q.2⟩
def spBent (K : PySem.W.Frag) (n : Nat) : Sp := fun vs H Q _ => ∃ (m : Addr) (G : Hp) (T : Int) (v : V) (d : PyData) (W : Nat), vs = [.ref m, v] ∧ Mst G H m T ∧ T + 10 * ((n : Int) + 1) ≤ 900000000 ∧ Pt K G v d ∧ Nice W n d ∧ n ≤ 10 ∧ W ≤ 3000 ∧
  ∀ (v' : V) (d' : PyData) (G' H' : Hp), Same G G' → Dq K G' v' d' → Nice (2 * W + 200) (n + 3) d' → Mst G' H' m (T + 10 * ((n : Int) + 1)) → Q v' H'
end G

set_option Elab.async false
set_option maxRecDepth 100000
set_option pp.maxSteps 300
namespace G
open PySem L2 PySem.Spec PyProof.Rows
structure TxBe (K : PySem.W.Frag) (mg : Str → Option Value) (fN fO fB : Addr) : Prop where
  next : mg "_law_next" = some (.ref fN)
  kn : PySem.W.keepIn K (.ref fN) = true
  odd : mg "_law_odd" = some (.ref fO)
  ko : PySem.W.keepIn K (.ref fO) = true
  bent : mg "_law_bent" = some (.ref fB)
  kb : PySem.W.keepIn K (.ref fB) = true
  isi : mg "isinstance" = none
  str : mg "str" = none
  int : mg "int" = none
  bool : mg "bool" = none
  tup : mg "tuple" = none
  len : mg "len" = none
  list : mg "list" = none
theorem bt_isi : bootBuiltins "isinstance" = some (.builtin "isinstance") := by decide +kernel
theorem bt_str : bootBuiltins "str" = some (.type "str") := by decide +kernel
theorem bt_bool : bootBuiltins "bool" = some (.type "bool") := by decide +kernel
theorem bt_tup : bootBuiltins "tuple" = some (.type "tuple") := by decide +kernel
/-- six ints, as they stand in the text -/
def six : List V := [.int 1, .int (-1), .int 2, .int (-2), .int 10, .int (-10)]
theorem six_small : ∀ v ∈ six, ∃ z : Int, v = .int z ∧ z.natAbs ≤ 10 := by
  intro v hv
  simp only [six, List.mem_cons, List.not_mem_nil, or_false] at hv
  rcases hv with rfl | rfl | rfl | rfl | rfl | rfl <;> exact ⟨_, rfl, by decide⟩
section
variable {P : Program} {w : World} {K : PySem.W.Frag} {mg : Str → Option Value} {base : Heap} {f fN fO : Addr} {fd fdN fdO : FuncData}
theorem scE : FnScope ["m", "thing", "at", "pick"] ["m", "thing"] (defScope sBent) := ⟨rfl, rfl, rfl, by decide +kernel, rfl, by decide +kernel, by decide +kernel⟩
theorem ok_bent (F : Fun K "_law_bent" "_law_bent" sBent f fd) (T : TxBe K mg fN fO f) (GN : FnOk P w K mg base CX0 1 fN fdN ["m", "many"] spNext) (bN : Binds K fdN ["m", "many"] [])
    (GO : FnOk P w K mg base CX0 2 fO fdO ["m"] (spOdd K)) (bO : Binds K fdO ["m"] []) (bB : Binds K fd ["m", "thing"] []) :
    ∀ n : Nat, FnOk P w K mg base CX0 (3 + n) f fd ["m", "thing"] (spBent K n)
  | 0 => by
    refine F.ok (k := 2) scE (fun vs H Q E h => ?_) (fun cdv A outer s H vs Q E hr h => ?_)
    · obtain ⟨m, G, T, v, d, W, rfl, _⟩ := h
      rfl
    have hr2 := hr
    have hr1 : Room 1 _ := hr.mono (by decide)
    have h64 := hu64 hr
    obtain ⟨m, G, Tm, v, d, W, rfl, M, hT, hp, hn, hn10, hW, k⟩ := h
    refine ⟨_, pss_cons (ps_if (pw_and (pt_val (pe_callB call_isi (by rfl) T.isi bt_isi (pa_cons (pv 1) (pa_cons (pe_bltn (v := .ty "str") (by rfl) T.str bt_str rfl) pa_nil)))) (pw_and1 (pt_cmpR op_eq (pe_call GN hr1 (by rfl) T.next T.kn bN .nil pass0 (pa_cons (pv 0) (pa_cons pe_int pa_nil))) pe_int (nomark _)))).pt pss_never pss_nil)
      (pss_cons (ps_if (pw_and (pt_val (pe_callB call_isi (by rfl) T.isi bt_isi (pa_cons (pv 1) (pa_cons (pe_bltn (v := .ty "int") (by rfl) T.int boot_int rfl) pa_nil)))) (pw_and (pt_not (pt_val (pe_callB call_isi (by rfl) T.isi bt_isi (pa_cons (pv 1) (pa_cons (pe_bltn (v := .ty "bool") (by rfl) T.bool bt_bool rfl) pa_nil))))) (pw_and1 (pt_cmpR op_eq (pe_call GN hr1 (by rfl) T.next T.kn bN .nil pass0 (pa_cons (pv 0) (pa_cons pe_int pa_nil))) pe_int (nomark _))))).pt
        (pss_one (ps_ret (pe_op op_add (pv 1) (pe_ix ix_list (pe_lst (pa_cons pe_int (pa_cons (pe_un un_neg pe_int) (pa_cons pe_int (pa_cons (pe_un un_neg pe_int) (pa_cons pe_int (pa_cons (pe_un un_neg pe_int) pa_nil))))))) (pe_call GN hr1 (by rfl) T.next T.kn bN .nil pass0 (pa_cons (pv 0) (pa_cons pe_int pa_nil))) (fun _ _ => rfl))))) pss_nil)
      (pss_cons (ps_if (pw_or (pt_not (pt_val (pe_callB call_isi (by rfl) T.isi bt_isi (pa_cons (pv 1) (pa_cons (pe_bltn (v := .ty "tuple") (by rfl) T.tup bt_tup rfl) pa_nil))))) (pw_or (pt_cmpR (op_eqT0 h64) (pv 1) (pe_tup pa_nil) (nomark _)) (pw_or1 (pt_cmpR op_eq (pe_call GN hr1 (by rfl) T.next T.kn bN .nil pass0 (pa_cons (pv 0) (pa_cons pe_int pa_nil))) pe_int (nomark _))))).pt (pss_one (ps_ret (pe_call GO hr2 (by rfl) T.odd T.ko bO .nil pass0 (pa_cons (pv 0) pa_nil)))) pss_nil)
      (pss_cons (ps_par (i := 2) (j := 3) rfl scE.nd rfl rfl (by decide) rfl rfl (pa_cons (pe_call GN hr1 (by rfl) T.next T.kn bN .nil pass0 (pa_cons (pv 0) (pa_cons (pe_callB call_len_seq (by rfl) T.len PySem.boot_len (pa_cons (pv 1) pa_nil)) pa_nil))) (pa_cons (pe_call GN hr1 (by rfl) T.next T.kn bN .nil pass0 (pa_cons (pv 0) (pa_cons pe_int pa_nil))) pa_nil)) rfl)
      (pss_cons (ps_if (pt_cmpR op_eq (pv 3) pe_int (nomark _)) (pss_one (ps_ret (pe_op op_catA (pe_slice sl_tupA (pv 1) po_none (po_some (pv 2))) (pe_slice sl_tupA (pv 1) (po_some (pe_op op_add (pv 2) pe_int)) po_none)))) pss_nil)
      (pss_cons (ps_if (pt_cmpR op_eq (pv 3) pe_int (nomark _)) (pss_one (ps_ret (pe_op op_catA (pv 1) (pe_slice sl_tupA (pv 1) (po_some (pv 2)) (po_some (pe_op op_add (pv 2) pe_int)))))) pss_nil)
      (pss_cons (ps_if (pt_cmpR op_eq (pv 3) pe_int (nomark _)) (pss_one (ps_ret (pe_callTy call_list_of (by rfl) T.list boot_list (pa_cons (pv 1) pa_nil)))) pss_nil)
      (pss_cons (ps_if (pt_cmpR op_eq (pv 3) pe_int (nomark _)) (pss_one (ps_ret (pe_op op_catA (pe_op op_catA (pe_slice sl_tupA (pv 1) po_none (po_some (pv 2))) (pe_tup (pa_cons (pe_call GO hr2 (by rfl) T.odd T.ko bO .nil pass0 (pa_cons (pv 0) pa_nil)) pa_nil))) (pe_slice sl_tupA (pv 1) (po_some (pv 2)) po_none)))) pss_nil)
      (pss_cons (ps_if (pt_cmpR op_eq (pv 3) pe_int (nomark _)) (pss_one (ps_ret (pe_revT (pv 1)))) pss_nil)
      pss_never)))))))), ?_⟩
    have fin : ∀ (v' : V) (d' : PyData) (G' H' : Hp) (T' : Int), Same G G' → Dq K G' v' d' → Nice (2 * W + 200) (0 + 3) d' → Mst G' H' m T' → T' ≤ Tm + 10 * (((0 : Nat) : Int) + 1) → Q v' H' :=
      fun v' d' G' H' T' a1 a2 a3 a4 a5 => k v' d' G' H' a1 a2 a3 (a4.mono a5)
    have odd : ∀ (G1 H1 : Hp) (T1 : Int), Same G G1 → Mst G1 H1 m T1 → T1 + 1 ≤ Tm + 10 * (((0 : Nat) : Int) + 1) → spOdd K [.ref m] H1 Q E0 := fun G1 H1 T1 a1 a2 a3 =>
      ⟨m, G1, T1, rfl, a2, by omega, fun v' d' G' H' b1 b2 b3 b4 => fin v' d' G' H' (T1 + 1) (a1.trans b1) b2 ((odd_nice d' b3).mono (by omega) (by omega)) b4 a3⟩
    cases hp with
    | int i hi =>
      have dq : ∀ H1 : Hp, Dq K H1 (.int i) (.int i) := fun _ => .inl (.int i)
      refine ⟨_, rfl, ?_⟩
      refine ⟨_, _, _, _, _, rfl, .ty _, ty_dq (dq _), kS _, ?_⟩
      refine ⟨_, rfl, ?_⟩
      refine iteF ?_
      refine iteF ?_
      refine ⟨_, rfl, ?_⟩
      refine ⟨_, _, _, _, _, rfl, .ty _, ty_dq (dq _), kI _, ?_⟩
      refine ⟨_, rfl, ?_⟩
      refine iteT ?_
      refine ⟨_, rfl, ?_⟩
      refine ⟨_, _, _, _, _, rfl, .ty _, ty_dq (dq _), kBo _, ?_⟩
      refine ⟨_, rfl, ?_⟩
      refine iteT ?_
      refine ⟨_, rfl, m, 2, G, Tm, rfl, M, by omega, by decide, by decide, fun r H1 r0 r1 M1 => ⟨rfl, _, rfl, ?_⟩⟩
      refine ite2 (fun _ => ?_) (fun _ => ?_)
      · refine ⟨_, rfl, ⟨_, rfl, ⟨_, rfl, ⟨_, rfl, (by show 6 ≤ sizeLine; decide), fun p hp => ?_⟩⟩⟩⟩
        have M2 := M1.grow (o := .lst six) hp
        refine ⟨_, rfl, m, 6, _, Tm + 1, rfl, M2, by omega, by decide, by decide, fun r' H2 q0 q1 M3 => ?_⟩
        have e := M3.sm _ _ (upd_same (a := p))
        obtain ⟨v, hv, hm⟩ := mod_at (xs := six) (j := r') q0 q1
        obtain ⟨z, rfl, hz⟩ := six_small v hm
        refine ⟨p, _, r', _, rfl, rfl, SqL.of e, hv, _, _, rfl, rfl, ?_⟩
        have small : (i + z).natAbs < 2 ^ 13 := Nat.lt_of_le_of_lt (show (i + z).natAbs ≤ 1010 by omega) (by decide)
        exact fin _ (.int (i + z)) _ _ _ (same_new (M1.sm.free hp)) (.inl (.int _)) ((nice_int small).mono (by omega) (by omega)) M3 (by omega)
      · refine ⟨_, rfl, ?_⟩
        refine ⟨_, _, _, _, _, rfl, .ty _, ty_dq (dq _), kTu _, ?_⟩
        refine ⟨_, rfl, ?_⟩
        refine iteT ?_
        exact iteT ⟨_, rfl, odd G H1 (Tm + 1) (Same.refl _) M1 (by omega)⟩
    | @tup a xs ds ht ha =>
      exact absurd hn.dp (by simp [PyData.depth])
  | n + 1 => by
    have GB := ok_bent F T GN bN GO bO bB n
    refine F.ok (k := 3 + n) scE (fun vs H Q E h => ?_) (fun cdv A outer s H vs Q E hr h => ?_)
    · obtain ⟨m, G, T, v, d, W, rfl, _⟩ := h
      rfl
    have hrB := hr
    have hr2 : Room 2 _ := hr.mono (by omega)
    have hr1 : Room 1 _ := hr.mono (by omega)
    have h64 := hu64 hr
    obtain ⟨m, G, Tm, v, d, W, rfl, M, hT, hp, hn, hn10, hW, k⟩ := h
    refine ⟨_, pss_cons (ps_if (pw_and (pt_val (pe_callB call_isi (by rfl) T.isi bt_isi (pa_cons (pv 1) (pa_cons (pe_bltn (v := .ty "str") (by rfl) T.str bt_str rfl) pa_nil)))) (pw_and1 (pt_cmpR op_eq (pe_call GN hr1 (by rfl) T.next T.kn bN .nil pass0 (pa_cons (pv 0) (pa_cons pe_int pa_nil))) pe_int (nomark _)))).pt pss_never pss_nil)
      (pss_cons (ps_if (pw_and (pt_val (pe_callB call_isi (by rfl) T.isi bt_isi (pa_cons (pv 1) (pa_cons (pe_bltn (v := .ty "int") (by rfl) T.int boot_int rfl) pa_nil)))) (pw_and (pt_not (pt_val (pe_callB call_isi (by rfl) T.isi bt_isi (pa_cons (pv 1) (pa_cons (pe_bltn (v := .ty "bool") (by rfl) T.bool bt_bool rfl) pa_nil))))) (pw_and1 (pt_cmpR op_eq (pe_call GN hr1 (by rfl) T.next T.kn bN .nil pass0 (pa_cons (pv 0) (pa_cons pe_int pa_nil))) pe_int (nomark _))))).pt
        (pss_one (ps_ret (pe_op op_add (pv 1) (pe_ix ix_list (pe_lst (pa_cons pe_int (pa_cons (pe_un un_neg pe_int) (pa_cons pe_int (pa_cons (pe_un un_neg pe_int) (pa_cons pe_int (pa_cons (pe_un un_neg pe_int) pa_nil))))))) (pe_call GN hr1 (by rfl) T.next T.kn bN .nil pass0 (pa_cons (pv 0) (pa_cons pe_int pa_nil))) (fun _ _ => rfl))))) pss_nil)
      (pss_cons (ps_if (pw_or (pt_not (pt_val (pe_callB call_isi (by rfl) T.isi bt_isi (pa_cons (pv 1) (pa_cons (pe_bltn (v := .ty "tuple") (by rfl) T.tup bt_tup rfl) pa_nil))))) (pw_or (pt_cmpR (op_eqT0 h64) (pv 1) (pe_tup pa_nil) (nomark _)) (pw_or1 (pt_cmpR op_eq (pe_call GN hr1 (by rfl) T.next T.kn bN .nil pass0 (pa_cons (pv 0) (pa_cons pe_int pa_nil))) pe_int (nomark _))))).pt (pss_one (ps_ret (pe_call GO hr2 (by rfl) T.odd T.ko bO .nil pass0 (pa_cons (pv 0) pa_nil)))) pss_nil)
      (pss_cons (ps_par (i := 2) (j := 3) rfl scE.nd rfl rfl (by decide) rfl rfl (pa_cons (pe_call GN hr1 (by rfl) T.next T.kn bN .nil pass0 (pa_cons (pv 0) (pa_cons (pe_callB call_len_seq (by rfl) T.len PySem.boot_len (pa_cons (pv 1) pa_nil)) pa_nil))) (pa_cons (pe_call GN hr1 (by rfl) T.next T.kn bN .nil pass0 (pa_cons (pv 0) (pa_cons pe_int pa_nil))) pa_nil)) rfl)
      (pss_cons (ps_if (pt_cmpR op_eq (pv 3) pe_int (nomark _)) (pss_one (ps_ret (pe_op op_catA (pe_slice sl_tupA (pv 1) po_none (po_some (pv 2))) (pe_slice sl_tupA (pv 1) (po_some (pe_op op_add (pv 2) pe_int)) po_none)))) pss_nil)
      (pss_cons (ps_if (pt_cmpR op_eq (pv 3) pe_int (nomark _)) (pss_one (ps_ret (pe_op op_catA (pv 1) (pe_slice sl_tupA (pv 1) (po_some (pv 2)) (po_some (pe_op op_add (pv 2) pe_int)))))) pss_nil)
      (pss_cons (ps_if (pt_cmpR op_eq (pv 3) pe_int (nomark _)) (pss_one (ps_ret (pe_callTy call_list_of (by rfl) T.list boot_list (pa_cons (pv 1) pa_nil)))) pss_nil)
      (pss_cons (ps_if (pt_cmpR op_eq (pv 3) pe_int (nomark _)) (pss_one (ps_ret (pe_op op_catA (pe_op op_catA (pe_slice sl_tupA (pv 1) po_none (po_some (pv 2))) (pe_tup (pa_cons (pe_call GO hr2 (by rfl) T.odd T.ko bO .nil pass0 (pa_cons (pv 0) pa_nil)) pa_nil))) (pe_slice sl_tupA (pv 1) (po_some (pv 2)) po_none)))) pss_nil)
      (pss_cons (ps_if (pt_cmpR op_eq (pv 3) pe_int (nomark _)) (pss_one (ps_ret (pe_revT (pv 1)))) pss_nil)
      (pss_one (ps_ret (pe_op op_catA (pe_op op_catA (pe_slice sl_tupA (pv 1) po_none (po_some (pv 2))) (pe_tup (pa_cons (pe_call GB hrB (by rfl) T.bent T.kb bB .nil pass0 (pa_cons (pv 0) (pa_cons (pe_ix ix_tup (pv 1) (pv 2) (fun _ _ => rfl)) pa_nil))) pa_nil))) (pe_slice sl_tupA (pv 1) (po_some (pe_op op_add (pv 2) pe_int)) po_none)))))))))))), ?_⟩
    have fin : ∀ (v' : V) (d' : PyData) (G' H' : Hp) (T' : Int), Same G G' → Dq K G' v' d' → Nice (2 * W + 200) (n + 1 + 3) d' → Mst G' H' m T' → T' ≤ Tm + 10 * (((n + 1 : Nat) : Int) + 1) → Q v' H' :=
      fun v' d' G' H' T' a1 a2 a3 a4 a5 => k v' d' G' H' a1 a2 a3 (a4.mono a5)
    have odd : ∀ (G1 H1 : Hp) (T1 : Int), Same G G1 → Mst G1 H1 m T1 → T1 + 1 ≤ Tm + 10 * (((n + 1 : Nat) : Int) + 1) → spOdd K [.ref m] H1 Q E0 := fun G1 H1 T1 a1 a2 a3 =>
      ⟨m, G1, T1, rfl, a2, by omega, fun v' d' G' H' b1 b2 b3 b4 => fin v' d' G' H' (T1 + 1) (a1.trans b1) b2 ((odd_nice d' b3).mono (by omega) (by omega)) b4 a3⟩
    cases hp with
    | int i hi =>
      have dq : ∀ H1 : Hp, Dq K H1 (.int i) (.int i) := fun _ => .inl (.int i)
      refine ⟨_, rfl, ?_⟩
      refine ⟨_, _, _, _, _, rfl, .ty _, ty_dq (dq _), kS _, ?_⟩
      refine ⟨_, rfl, ?_⟩
      refine iteF ?_
      refine iteF ?_
      refine ⟨_, rfl, ?_⟩
      refine ⟨_, _, _, _, _, rfl, .ty _, ty_dq (dq _), kI _, ?_⟩
      refine ⟨_, rfl, ?_⟩
      refine iteT ?_
      refine ⟨_, rfl, ?_⟩
      refine ⟨_, _, _, _, _, rfl, .ty _, ty_dq (dq _), kBo _, ?_⟩
      refine ⟨_, rfl, ?_⟩
      refine iteT ?_
      refine ⟨_, rfl, m, 2, G, Tm, rfl, M, by omega, by decide, by decide, fun r H1 r0 r1 M1 => ⟨rfl, _, rfl, ?_⟩⟩
      refine ite2 (fun _ => ?_) (fun _ => ?_)
      · refine ⟨_, rfl, ⟨_, rfl, ⟨_, rfl, ⟨_, rfl, (by show 6 ≤ sizeLine; decide), fun p hp => ?_⟩⟩⟩⟩
        have M2 := M1.grow (o := .lst six) hp
        refine ⟨_, rfl, m, 6, _, Tm + 1, rfl, M2, by omega, by decide, by decide, fun r' H2 q0 q1 M3 => ?_⟩
        have e := M3.sm _ _ (upd_same (a := p))
        obtain ⟨v, hv, hm⟩ := mod_at (xs := six) (j := r') q0 q1
        obtain ⟨z, rfl, hz⟩ := six_small v hm
        refine ⟨p, _, r', _, rfl, rfl, SqL.of e, hv, _, _, rfl, rfl, ?_⟩
        have small : (i + z).natAbs < 2 ^ 13 := Nat.lt_of_le_of_lt (show (i + z).natAbs ≤ 1010 by omega) (by decide)
        exact fin _ (.int (i + z)) _ _ _ (same_new (M1.sm.free hp)) (.inl (.int _)) ((nice_int small).mono (by omega) (by omega)) M3 (by omega)
      · refine ⟨_, rfl, ?_⟩
        refine ⟨_, _, _, _, _, rfl, .ty _, ty_dq (dq _), kTu _, ?_⟩
        refine ⟨_, rfl, ?_⟩
        refine iteT ?_
        exact iteT ⟨_, rfl, odd G H1 (Tm + 1) (Same.refl _) M1 (by omega)⟩
    | @tup a xs ds ht ha =>
      have pr := of_ptAll ha
      have ln := pr_len pr
      have pt : ∀ {G1 : Hp}, Same G G1 → Pt K G1 (.ref a) (.tuple ds) := fun s => Pt.same s (.tup ht ha)
      have nl : NiceL W n ds := niceL_of hn
      have dq : ∀ {G1 H1 : Hp} {T1 : Int}, Same G G1 → Mst G1 H1 m T1 → Dq K H1 (.ref a) (.tuple ds) := fun s M => .inl (Pt.dp ((pt s).same M.sm))
      refine ⟨_, rfl, ?_⟩
      refine ⟨_, _, _, _, _, rfl, .ty _, ty_dq (dq (Same.refl _) M), kS _, ?_⟩
      refine ⟨_, rfl, ?_⟩
      refine iteF ?_
      refine iteF ?_
      refine ⟨_, rfl, ?_⟩
      refine ⟨_, _, _, _, _, rfl, .ty _, ty_dq (dq (Same.refl _) M), kI _, ?_⟩
      refine ⟨_, rfl, ?_⟩
      refine iteF ?_
      refine iteF ?_
      refine ⟨_, rfl, ?_⟩
      refine ⟨_, _, _, _, _, rfl, .ty _, ty_dq (dq (Same.refl _) M), kTu _, ?_⟩
      refine ⟨_, rfl, ?_⟩
      refine iteF ?_
      refine ⟨_, rfl, Nat.zero_le _, fun p0 h0 => ?_⟩
      have M0 := M.grow (o := .tup []) h0
      have s0 := same_new (o := .tup []) (M.sm.free h0)
      refine ⟨_, ds, p0, rfl, (pt s0).same M0.sm, by have := hn.dp; omega, rfl, SqT.of upd_same, _, rfl, ?_⟩
      by_cases emp : ds.isEmpty = true
      · rw [emp]
        exact iteT (iteT ⟨_, rfl, odd _ _ Tm s0 M0 (by omega)⟩)
      · rw [Bool.not_eq_true] at emp
        rw [emp]
        refine iteF ?_
        refine ⟨_, rfl, m, 6, _, Tm, rfl, M0, by omega, by decide, by decide, fun r H1 r0 r1 M1 => ⟨rfl, _, rfl, ?_⟩⟩
        refine ite2 (fun _ => ⟨_, rfl, odd _ _ _ s0 M1 (by omega)⟩) (fun _ => ?_)
        have ne : 0 < xs.length := by
          rw [ln]
          cases ds with
          | nil => cases emp
          | cons _ _ => exact Nat.succ_pos _
        have hz : xs.length ≤ 3000 := by
          rw [ln]
          have q := nl.wt
          have q2 : ∀ l : List PyData, l.length ≤ PyData.weightAll l := fun l => by
            induction l with
            | nil => exact Nat.zero_le _
            | cons d l ih =>
              simp only [PyData.weightAll, List.length_cons]
              omega
          have := q2 ds
          omega
        have line : ∀ z : Nat, z ≤ 7000 → z ≤ sizeLine := fun z h => Nat.le_trans h (by decide)
        refine ⟨_, rfl, _, rfl, a, _, rfl, .inr (sqT_same (s0.trans M1.sm) ht), m, (xs.length : Int), _, Tm + 1, rfl, M1, by omega, by omega, by omega, fun rj H2 j0 j1 M2 => ?_⟩
        refine ⟨_, rfl, m, 11, _, Tm + 1 + 1, rfl, M2, by omega, by decide, by decide, fun rp H3 _ _ M3 => ⟨_, _, rfl, ?_⟩⟩
        obtain ⟨j, rfl⟩ : ∃ j : Nat, rj = (j : Int) := ⟨rj.toNat, by omega⟩
        have hj : j < xs.length := by omega
        have hT := sqT_same s0 ht
        obtain ⟨x, hx⟩ : ∃ x, xs[j]? = some x := ⟨xs[j], by simp [hj]⟩
        obtain ⟨e, he, hpe⟩ := pr_get pr hx
        obtain ⟨wa, wb, wc, na, nb, nc, nw⟩ := niceL_split nl he
        have up : ∀ {G1 : Hp} {l : List V} {es : List PyData}, Same G G1 → Paired (Pt K G) l es → Paired (Pt K G1) l es := fun s h => pr_map (fun _ _ => Pt.same s) h
        have cj : (j : Int) + 1 = ((j + 1 : Nat) : Int) := by omega
        -- without one
        refine ⟨_, rfl, rfl, _, rfl, ite2 (fun _ => ?_) (fun _ => ?_)⟩
        · refine ⟨_, rfl, _, rfl, _, rfl, sl_any M3 hT fun c1 G1 K1 t1 N1 e1 => ?_⟩
          refine ⟨_, rfl, _, rfl, _, _, rfl, rfl, _, rfl, ?_⟩
          dsimp only [tNoPart]
          refine sl_any N1 (sqT_same t1 hT) fun c2 G2 K2 t2 N2 e2 => ?_
          rw [cut_to (Nat.le_of_lt hj)] at e1
          rw [cj, cut_from hj] at e2
          refine cat_any N2 (sqT_same t2 e1) e2 (line _ (by rw [List.length_take, List.length_drop]; omega)) fun c3 G3 K3 t3 N3 e3 => ?_
          have sg := ((s0.trans t1).trans t2).trans t3
          exact fin _ (.tuple (ds.take j ++ ds.drop (j + 1))) _ _ _ sg (.inl (Pt.dp (.tup e3 (ptAll_of (up sg (pr_app (pr_take j pr) (pr_drop (j + 1) pr)))))))
            ((nice_tup (niceL_app na nc)).mono (by omega) (by omega)) N3 (by omega)
        -- one twice
        refine ⟨_, rfl, rfl, _, rfl, ite2 (fun _ => ?_) (fun _ => ?_)⟩
        · refine ⟨_, rfl, _, rfl, _, rfl, _, rfl, _, rfl, _, _, rfl, rfl, _, rfl, sl_any M3 hT fun c1 G1 K1 t1 N1 e1 => ?_⟩
          rw [cut_one hj] at e1
          refine cat_any N1 (sqT_same t1 hT) e1 (line _ (by rw [List.length_take, List.length_drop]; omega)) fun c3 G3 K3 t3 N3 e3 => ?_
          have sg := (s0.trans t1).trans t3
          exact fin _ (.tuple (ds ++ (ds.drop j).take 1)) _ _ _ sg (.inl (Pt.dp (.tup e3 (ptAll_of (up sg (pr_app pr (pr_take 1 (pr_drop j pr))))))))
            ((nice_tup (niceL_app nl (niceL_take 1 (niceL_drop j nl)))).mono (by omega) (by omega)) N3 (by omega)
        -- a list
        refine ⟨_, rfl, rfl, _, rfl, ite2 (fun _ => ?_) (fun _ => ?_)⟩
        · refine ⟨_, rfl, a, xs, rfl, .inr (sqT_same M3.sm hT), fun p hp => ?_⟩
          have sg := s0.trans (same_new (o := .lst xs) (M3.sm.free hp))
          exact fin _ (.list ds) _ _ _ sg (.inl (.lst (SqL.of upd_same) (dpAll_of (pr_map (fun _ _ => Pt.dp) (up sg pr))))) ((nice_lst nl).mono (by omega) (by omega)) (M3.grow hp) (by omega)
        -- one more thing
        refine ⟨_, rfl, rfl, _, rfl, ite2 (fun _ => ?_) (fun _ => ?_)⟩
        · refine ⟨_, rfl, _, rfl, _, rfl, sl_any M3 hT fun c1 G1 K1 t1 N1 e1 => ?_⟩
          refine ⟨_, rfl, m, G1, _, rfl, N1, by omega, fun ov od G2 K2 t2 od1 od2 N2 => ?_⟩
          refine ⟨(by show 1 ≤ sizeLine; decide), fun p hp => ?_⟩
          have N3 := N2.grow (o := .tup [ov]) hp
          have t3 := same_new (o := .tup [ov]) (N2.sm.free hp)
          rw [cut_to (Nat.le_of_lt hj)] at e1
          refine cat_any N3 (sqT_same (t2.trans t3) e1) (SqT.of upd_same) (line _ (by rw [List.length_take]; show _ + 1 ≤ _; omega)) fun c4 G4 K4 t4 N4 e4 => ?_
          refine ⟨_, rfl, _, rfl, _, rfl, ?_⟩
          dsimp only [tNoPart]
          refine sl_any N4 (sqT_same (((t1.trans t2).trans t3).trans t4) hT) fun c5 G5 K5 t5 N5 e5 => ?_
          rw [cut_from (Nat.le_of_lt hj)] at e5
          refine cat_any N5 (sqT_same t5 e4) e5 (line _ (by rw [List.length_append, List.length_take, List.length_drop]; show _ + 1 + _ ≤ _; omega)) fun c6 G6 K6 t6 N6 e6 => ?_
          have sg := (((((s0.trans t1).trans t2).trans t3).trans t4).trans t5).trans t6
          have dqo : Dq K G6 ov od := od1.same ((((t3.trans t4).trans t5)).trans t6)
          exact fin _ (.tuple (ds.take j ++ [od] ++ ds.drop j)) _ _ _ sg (dq_tup e6 (up sg (pr_take j pr)) dqo (up sg (pr_drop j pr)))
            ((nice_tup (niceL_app (niceL_app (na.mono (Nat.le_refl _) (Nat.le_add_right _ 2)) (niceL_cons (n := 0) ((odd_nice od od2).mono (Nat.le_refl _) (by omega)) niceL_nil)) ((niceL_drop j nl).mono (Nat.le_refl _) (Nat.le_add_right _ 2)))).mono (by omega) (by omega)) N6 (by omega)
        -- turned about
        refine ⟨_, rfl, rfl, _, rfl, ite2 (fun _ => ?_) (fun _ => ?_)⟩
        · refine ⟨_, rfl, a, xs, rfl, sqT_same M3.sm hT, fun p hp => ?_⟩
          have sg := s0.trans (same_new (o := .tup xs.reverse) (M3.sm.free hp))
          exact fin _ (.tuple ds.reverse) _ _ _ sg (.inl (Pt.dp (.tup (SqT.of upd_same) (ptAll_of (up sg (pr_rev pr)))))) ((nice_tup (niceL_rev nl)).mono (by omega) (by omega)) (M3.grow hp) (by omega)
        -- one of its things bent
        refine ⟨_, rfl, _, rfl, _, rfl, sl_any M3 hT fun c1 G1 K1 t1 N1 e1 => ?_⟩
        refine ⟨_, rfl, _, rfl, _, rfl, a, xs, (j : Int), x, rfl, rfl, sqT_same (t1.trans N1.sm) hT, atI_nat hx, ?_⟩
        refine ⟨m, G1, _, x, e, wb, rfl, N1, by omega, hpe.same (s0.trans t1), nb, by omega, by omega, fun ov od G2 K2 t2 od1 od2 N2 => ?_⟩
        refine ⟨(by show 1 ≤ sizeLine; decide), fun p hp => ?_⟩
        have N3 := N2.grow (o := .tup [ov]) hp
        have t3 := same_new (o := .tup [ov]) (N2.sm.free hp)
        rw [cut_to (Nat.le_of_lt hj)] at e1
        refine cat_any N3 (sqT_same (t2.trans t3) e1) (SqT.of upd_same) (line _ (by rw [List.length_take]; show _ + 1 ≤ _; omega)) fun c4 G4 K4 t4 N4 e4 => ?_
        refine ⟨_, rfl, _, rfl, _, _, rfl, rfl, _, rfl, ?_⟩
        dsimp only [tNoPart]
        refine sl_any N4 (sqT_same (((t1.trans t2).trans t3).trans t4) hT) fun c5 G5 K5 t5 N5 e5 => ?_
        rw [cj, cut_from hj] at e5
        refine cat_any N5 (sqT_same t5 e4) e5 (line _ (by rw [List.length_append, List.length_take, List.length_drop]; show _ + 1 + _ ≤ _; omega)) fun c6 G6 K6 t6 N6 e6 => ?_
        have sg := (((((s0.trans t1).trans t2).trans t3).trans t4).trans t5).trans t6
        have dqo : Dq K G6 ov od := od1.same ((((t3.trans t4).trans t5)).trans t6)
        exact fin _ (.tuple (ds.take j ++ [od] ++ ds.drop (j + 1))) _ _ _ sg (dq_tup e6 (up sg (pr_take j pr)) dqo (up sg (pr_drop (j + 1) pr)))
          ((nice_tup (niceL_app (niceL_app (na.mono (Nat.le_refl _) (Nat.le_add_right _ 3)) (niceL_cons (n := 0) od2 niceL_nil)) (nc.mono (Nat.le_refl _) (Nat.le_add_right _ 3)))).mono (by omega) (by omega)) N6 (by omega)
end
end G

set_option Elab.async false
set_option maxRecDepth 100000
set_option pp.maxSteps 300
namespace G
open PySem L2 PySem.Spec PyProof.Rows
/-! ### tables as data -/
def rowD (r : List Int) : PyData := .tuple (r.map .int)
def tabD (t : List (List Int)) : PyData := .tuple (t.map rowD)
def tabsD (ts : List (List (List Int))) : PyData := .tuple (ts.map tabD)
/-- entries from 0 to 9, n in a row -/
def RowOk (n : Nat) (r : List Int) : Prop := r.length = n ∧ ∀ x ∈ r, 0 ≤ x ∧ x ≤ 9
def TabOk (n : Nat) (t : List (List Int)) : Prop := t.length = n ∧ ∀ r ∈ t, RowOk n r
structure FamOk (n : Nat) (ts : List (List (List Int))) : Prop where
  n1 : 1 ≤ n
  n4 : n ≤ 4
  l1 : 1 ≤ ts.length
  l3 : ts.length ≤ 3
  ok : ∀ t ∈ ts, TabOk n t
/-- the tuples stay, in whatever else is written -/
def TS (G G' : Hp) : Prop := (∀ b xs, G b = some (.tup xs) → G' b = some (.tup xs)) ∧ ∀ b o xs, G b = some (.frz o (.tup xs)) → G' b = some (.frz o (.tup xs))
theorem TS.refl (G : Hp) : TS G G := ⟨fun _ _ h => h, fun _ _ _ h => h⟩
theorem TS.trans {G1 G2 G3 : Hp} (a : TS G1 G2) (b : TS G2 G3) : TS G1 G3 := ⟨fun c x h => b.1 c x (a.1 c x h), fun c o x h => b.2 c o x (a.2 c o x h)⟩
theorem TS.of {G G' : Hp} (s : Same G G') : TS G G' := ⟨fun _ _ h => s _ _ h, fun _ _ _ h => s _ _ h⟩
theorem TS.wr {G : Hp} {p : Addr} {xs : List V} {o : HO} (h : G p = some (.lst xs)) : TS G (upd G p o) :=
  ⟨fun b ys e => by rw [upd_ne (ne_of e h (by intro z; cases z))]; exact e, fun b q ys e => by rw [upd_ne (ne_of e h (by intro z; cases z))]; exact e⟩
theorem sqT_ts {K : PySem.W.Frag} {G G' : Hp} {a : Addr} {xs : List V} (e : TS G G') (h : SqT K G a xs) : SqT K G' a xs := by
  rcases h with (h | ⟨o, h⟩) | h
  · exact .inl (.inl (e.1 _ _ h))
  · exact .inl (.inr ⟨o, e.2 _ _ _ h⟩)
  · exact .inr h
mutual
theorem Pt.ts {K : PySem.W.Frag} {G G' : Hp} (e : TS G G') : ∀ {d : PyData} {v : V}, Pt K G v d → Pt K G' v d
  | .none, _, h => by cases h
  | .bool _, _, h => by cases h
  | .int _, _, h => by
    cases h with
    | int _ h => exact .int _ h
  | .str _, _, h => by cases h
  | .list _, _, h => by cases h
  | .tuple ds, _, h => by
    cases h with
    | tup h1 h2 => exact .tup (sqT_ts e h1) (PtAll.ts e h2)
  | .dict _, _, h => by cases h
theorem PtAll.ts {K : PySem.W.Frag} {G G' : Hp} (e : TS G G') : ∀ {ds : List PyData} {vs : List V}, PtAll K G vs ds → PtAll K G' vs ds
  | [], _, h => by cases h; exact .nil
  | d :: ds, _, h => by
    cases h with
    | cons h1 h2 => exact .cons (Pt.ts e h1) (PtAll.ts e h2)
end
/-- a list that is being filled: it stands at p in G, p new to G0 -/
structure Fil (K : PySem.W.Frag) (G0 G : Hp) (p : Addr) (vs : List V) (ds : List PyData) : Prop where
  at_ : G p = some (.lst vs)
  nw : G0 p = none
  pr : Paired (Pt K G) vs ds
theorem same_wr {G0 G : Hp} {p : Addr} {o : HO} (s : Same G0 G) (h : G0 p = none) : Same G0 (upd G p o) := fun b u e => by
  rw [upd_ne (ne_of_none e h)]
  exact s b u e
theorem ints_pt {K : PySem.W.Frag} {G : Hp} : ∀ {r : List Int}, (∀ x ∈ r, 0 ≤ x ∧ x ≤ 9) → Paired (Pt K G) (r.map V.int) (r.map PyData.int)
  | [], _ => .nil
  | x :: r, h => .cons (.int x (by have := h x (List.mem_cons_self ..); omega)) (ints_pt fun y hy => h y (List.mem_cons_of_mem _ hy))
/-! ### _law_tables -/
abbrev sTabs : Stmt := top 21
def spTabs (K : PySem.W.Frag) : Sp := fun vs H Q _ => ∃ (m : Addr) (G : Hp) (T spread many sparse : Int), vs = [.ref m, .int spread, .int many, .int sparse] ∧ Mst G H m T ∧ T ≤ 900000000 ∧
  1 ≤ spread ∧ spread ≤ 4 ∧ 1 ≤ many ∧ many ≤ 3 ∧ 1 ≤ sparse ∧ sparse ≤ 1000 ∧
  ∀ (v : V) (n : Nat) (ts : List (List (List Int))) (G' H' : Hp), Same G G' → Pt K G' v (tabsD ts) → FamOk n ts → Mst G' H' m (T + 200) → Q v H'
structure TxT (K : PySem.W.Frag) (mg : Str → Option Value) (fN : Addr) : Prop where
  next : mg "_law_next" = some (.ref fN)
  kn : PySem.W.keepIn K (.ref fN) = true
  range : mg "range" = none
  tup : mg "tuple" = none
def sixT : List V := [.int 1, .int 1, .int 1, .int 1, .int 2, .int 9]
theorem sixT_small : ∀ v ∈ sixT, ∃ z : Int, v = .int z ∧ 0 ≤ z ∧ z ≤ 9 := by
  intro v hv
  simp only [sixT, List.mem_cons, List.not_mem_nil, or_false] at hv
  rcases hv with rfl | rfl | rfl | rfl | rfl | rfl <;> exact ⟨_, rfl, by decide, by decide⟩
section
variable {P : Program} {w : World} {K : PySem.W.Frag} {mg : Str → Option Value} {base : Heap} {f fN : Addr} {fd fdN : FuncData}
theorem scT : FnScope ["m", "spread", "many", "sparse", "n", "found", "k", "rows", "i", "row", "j"] ["m", "spread", "many", "sparse"] (defScope sTabs) := ⟨rfl, rfl, rfl, by decide +kernel, rfl, by decide +kernel, by decide +kernel⟩
theorem ok_tabs (F : Fun K "_law_tables" "_law_tables" sTabs f fd) (T : TxT K mg fN) (GN : FnOk P w K mg base CX0 1 fN fdN ["m", "many"] spNext) (bN : Binds K fdN ["m", "many"] []) :
    FnOk P w K mg base CX0 2 f fd ["m", "spread", "many", "sparse"] (spTabs K) := by
  refine F.ok scT (fun vs H Q E h => ?_) (fun cdv A outer s H vs Q E hr h => ?_)
  · obtain ⟨m, G, T, a, b, c, rfl, _⟩ := h
    rfl
  · obtain ⟨m, G0, Tm, spread, many, sparse, rfl, M, hT, a1, a4, b1, b3, c1, c2, k⟩ := h
    refine ⟨_, pss_cons (ps_par (i := 4) (j := 5) rfl scT.nd rfl rfl (by decide) rfl rfl (pa_cons (pe_op op_add pe_int (pe_call GN hr (by rfl) T.next T.kn bN .nil pass0 (pa_cons (pv 0) (pa_cons (pv 1) pa_nil)))) (pa_cons (pe_lst pa_nil) pa_nil)) rfl)
      (pss_cons (ps_for PassesOwn.never rfl (pi_range1 (by rfl) T.range (pa_cons (pe_op op_add pe_int (pe_call GN hr (by rfl) T.next T.kn bN .nil pass0 (pa_cons (pv 0) (pa_cons (pv 2) pa_nil)))) pa_nil)) (pg_name (i := 6) scT.nd rfl (Or.inl rfl))
        (pss_cons (ps_set (i := 7) scT.nd rfl (Or.inl rfl) (pe_lst pa_nil))
        (pss_cons (ps_for PassesOwn.never rfl (pi_range1 (by rfl) T.range (pa_cons (pv 4) pa_nil)) (pg_name (i := 8) scT.nd rfl (Or.inl rfl))
          (pss_cons (ps_setLc (i := 9) (own := [("j", 10)]) (g := gName 10) (tt := tYes) (by rfl) scT.nd rfl rfl (sw_true rfl rfl rfl (by decide +kernel)) (pi_range1 (by rfl) T.range (pa_cons (pv 4) pa_nil))
              (blkOk_by (own := [("j", 10)]) (N := ["m", "spread", "many", "sparse", "n", "found", "k", "rows", "i", "row", "j"]) (sc := defScope sTabs) (by decide +kernel)) (fun _ _ _ _ _ => pg_name (i := 10) scT.nd rfl (Or.inl rfl)) (fun _ _ _ _ _ => pts_nil)
              (fun _ _ _ _ _ => pe_ifExp (pt_cmpR op_gt (pe_call GN hr (by rfl) T.next T.kn bN .nil pass0 (pa_cons (pv 0) (pa_cons (pv 3) pa_nil))) pe_int (nomark _)) pe_int
                (pe_ix (r := rIxL K) ix_list (pe_lst (pa_cons pe_int (pa_cons pe_int (pa_cons pe_int (pa_cons pe_int (pa_cons pe_int (pa_cons pe_int pa_nil))))))) (pe_call GN hr (by rfl) T.next T.kn bN .nil pass0 (pa_cons (pv 0) (pa_cons pe_int pa_nil))) (fun _ _ => rfl))))
          (pss_one (ps_expr (pe_bm PySem.F.plainAttrs_list PySem.F.slot_list_append PySem.F.type_list_append mt_append (pv 7) (pa_cons (pe_callTy call_tuple_of (by rfl) T.tup bt_tup (pa_cons (pv 9) pa_nil)) pa_nil))))))
        (pss_one (ps_expr (pe_bm PySem.F.plainAttrs_list PySem.F.slot_list_append PySem.F.type_list_append mt_append (pv 5) (pa_cons (pe_callTy call_tuple_of (by rfl) T.tup bt_tup (pa_cons (pv 7) pa_nil)) pa_nil)))))))
      (pss_one (ps_ret (pe_callTy call_tuple_of (by rfl) T.tup bt_tup (pa_cons (pv 5) pa_nil))))), ?_⟩
    refine ⟨_, rfl, _, rfl, m, spread, G0, Tm, rfl, M, by omega, a1, by omega, fun rn H1 n0 n1 M1 => ?_⟩
    refine ⟨_, _, rfl, rfl, Nat.zero_le _, fun pf hf => ⟨_, _, rfl, ?_⟩⟩
    obtain ⟨nn, hnn⟩ : ∃ nn : Nat, 1 + rn = (nn : Int) := ⟨(1 + rn).toNat, by omega⟩
    have nn1 : 1 ≤ nn := by omega
    have nn4 : nn ≤ 4 := by omega
    have p62 : (-(2 ^ 62) : Int) ≤ 0 ∧ (5 : Int) < 2 ^ 62 := by decide
    have g0 := M1.sm.free hf
    have M2 := M1.grow (o := .lst []) hf
    have s1 := same_new (o := .lst []) g0
    refine ⟨_, rfl, _, rfl, m, many, _, Tm + 1, rfl, M2, by omega, b1, by omega, fun rm H2 m0 m1 M3 => ?_⟩
    refine ⟨_, _, rfl, rfl, _, rfl, by omega, by omega, ?_⟩
    refine for_range (fun k σ H => ∃ (G : Hp) (vs : List V) (ts : List (List (List Int))) (o6 o7 o8 o9 : Option V), σ = [some (.ref m), some (.int spread), some (.int many), some (.int sparse), some (.int (1 + rn)), some (.ref pf), o6, o7, o8, o9, none] ∧
      Same G0 G ∧ Fil K G0 G pf vs (ts.map tabD) ∧ ts.length = k ∧ (∀ t ∈ ts, TabOk nn t) ∧ Mst G H m (Tm + 2 + 40 * (k : Int)))
      ⟨_, [], [], none, none, none, none, rfl, s1, ⟨upd_same, g0, .nil⟩, rfl, fun _ z => (nomatch z), M3.mono (by omega)⟩ ?_ ?_
    · rintro kk σ H3 hk ⟨Gk, vs, ts, o6, o7, o8, o9, rfl, s, Fi, ln, ok, M4⟩
      refine ⟨Nat.zero_le _, fun pr hr' => ?_⟩
      have gk := M4.sm.free hr'
      have M5 := M4.grow (o := .lst []) hr'
      have s2 := same_new (o := .lst []) gk
      refine ⟨_, rfl, _, rfl, by omega, by omega, ?_⟩
      refine for_range (fun i σ H => ∃ (G : Hp) (ws : List V) (rs : List (List Int)) (o8 o9 : Option V), σ = [some (.ref m), some (.int spread), some (.int many), some (.int sparse), some (.int (1 + rn)), some (.ref pf), some (.int (0 + (kk : Int))), some (.ref pr), o8, o9, none] ∧
        Same Gk G ∧ Fil K Gk G pr ws (rs.map rowD) ∧ rs.length = i ∧ (∀ r ∈ rs, RowOk nn r) ∧ Mst G H m (Tm + 2 + 40 * (kk : Int) + 9 * (i : Int)))
        ⟨_, [], [], _, _, rfl, s2, ⟨upd_same, gk, .nil⟩, rfl, fun _ z => (nomatch z), M5.mono (by omega)⟩ ?_ ?_
      · rintro ii σ H4 hi ⟨Gi, ws, rs, o8, o9, rfl, si, Fr, lr, okr, M6⟩
        refine ⟨_, rfl, _, rfl, by omega, by omega, fun D hD => lc_range (lo := 0) (fun j H => ∃ (G : Hp) (xs : List Int), Same Gi G ∧ Gi D = none ∧ G D = some (.lst (xs.map V.int)) ∧ xs.length = j ∧ (∀ x ∈ xs, 0 ≤ x ∧ x ≤ 9) ∧
          Mst G H m (Tm + 2 + 40 * (kk : Int) + 9 * (ii : Int) + 2 * (j : Int))) ⟨_, [], same_new (M6.sm.free hD), M6.sm.free hD, upd_same, rfl, fun _ z => (nomatch z), (M6.grow hD).mono (by omega)⟩ ?_ ?_⟩
        · rintro jj H5 hj ⟨Gj, xs, sj, nD, eD, lx, okx, M7⟩
          refine ⟨rfl, ?_⟩
          simp only [tYes, if_true]
          refine ⟨_, rfl, _, rfl, m, sparse, Gj, _, rfl, M7, by omega, c1, by omega, fun r H6 r0 r1 M8 => ⟨_, _, rfl, rfl, _, rfl, ?_⟩⟩
          have lim : ∀ z : Int, 0 ≤ z → z ≤ 9 → ∀ x ∈ xs ++ [z], 0 ≤ x ∧ x ≤ 9 := fun z z0 z9 x hx => by
            rcases List.mem_append.mp hx with q | q
            · exact okx x q
            · rw [List.mem_singleton] at q
              subst q
              exact ⟨z0, z9⟩
          have sz : (xs.map V.int).length < sizeLine := by
            rw [List.length_map, lx]
            exact Nat.lt_of_le_of_lt (show jj ≤ 10 by omega) (by decide)
          refine ite2 (fun _ => ?_) (fun _ => ?_)
          · refine ⟨_, M8.sm _ _ eD, sz, upd Gj D (.lst ((xs ++ [0]).map V.int)), xs ++ [0], same_wr sj nD, nD, upd_same, by rw [List.length_append, lx]; rfl, lim 0 (by decide) (by decide), ?_⟩
            have e : (xs ++ [0]).map V.int = xs.map V.int ++ [V.int 0] := by rw [List.map_append]; rfl
            rw [e]
            exact (M8.write eD).mono (by omega)
          · refine ⟨(by show 6 ≤ sizeLine; decide), fun p hp => ?_⟩
            have gp := M8.sm.free hp
            have M9 := M8.grow (o := .lst sixT) hp
            refine ⟨_, rfl, m, 6, _, _, rfl, M9, by omega, by decide, by decide, fun r' H7 q0 q1 Ma => ?_⟩
            have ep := Ma.sm _ _ (upd_same (a := p))
            obtain ⟨v, hv, hm⟩ := mod_at (xs := sixT) (j := r') q0 q1
            obtain ⟨z, rfl, z0, z9⟩ := sixT_small v hm
            have eD2 := same_new (o := .lst sixT) gp _ _ eD
            refine ⟨p, _, r', _, rfl, rfl, SqL.of ep, hv, _, Ma.sm _ _ eD2, sz, upd (upd Gj p (.lst sixT)) D (.lst ((xs ++ [z]).map V.int)), xs ++ [z], same_wr (sj.trans (same_new gp)) nD, nD, upd_same, by rw [List.length_append, lx]; rfl, lim z z0 z9, ?_⟩
            have e : (xs ++ [z]).map V.int = xs.map V.int ++ [V.int z] := by rw [List.map_append]; rfl
            rw [e]
            exact (Ma.write eD2).mono (by omega)
        · rintro H5 ⟨Gj, xs, sj, nD, eD, lx, okx, M7⟩
          have er := sj _ _ Fr.at_
          refine ⟨_, rfl, .inl ⟨rfl, _, SqL.of (M7.sm _ _ er)⟩, _, rfl, D, _, rfl, .inl ⟨SqL.of (M7.sm _ _ eD), fun q hq => ?_⟩⟩
          have gq := M7.sm.free hq
          have M8 := M7.grow (o := .tup (xs.map V.int)) hq
          have er2 := same_new (o := .tup (xs.map V.int)) gq _ _ er
          have lw := pr_len Fr.pr
          rw [List.length_map] at lw
          refine ⟨pr, _, _, rfl, rfl, M8.sm _ _ er2, Nat.lt_of_le_of_lt (show ws.length ≤ 10 by omega) (by decide), ?_⟩
          have npq : q ≠ pr := (ne_of_none er gq).symm
          have ts1 : TS Gi (upd (upd Gj q (.tup (xs.map V.int))) pr (.lst (ws ++ [.ref q]))) := (TS.of (sj.trans (same_new gq))).trans (TS.wr er2)
          refine ⟨_, ws ++ [.ref q], rs ++ [xs], _, _, rfl, same_wr ((si.trans sj).trans (same_new gq)) Fr.nw, ⟨upd_same, Fr.nw, ?_⟩, by rw [List.length_append, lr]; rfl, fun r hr2 => ?_, (M8.write er2).mono (by omega)⟩
          · rw [List.map_append]
            refine pr_app (pr_map (fun _ _ => Pt.ts ts1) Fr.pr) (.cons (.tup (SqT.of ?_) (ptAll_of (ints_pt okx))) .nil)
            rw [upd_ne npq, upd_same]
          · rcases List.mem_append.mp hr2 with z | z
            · exact okr r z
            · rw [List.mem_singleton] at z
              subst z
              exact ⟨by omega, okx⟩
      · rintro σ H4 ⟨Gi, ws, rs, o8, o9, rfl, si, Fr, lr, okr, M6⟩
        have er := M6.sm _ _ Fr.at_
        have ef := si _ _ Fi.at_
        refine ⟨_, rfl, .inl ⟨rfl, _, SqL.of (M6.sm _ _ ef)⟩, _, rfl, pr, _, rfl, .inl ⟨SqL.of er, fun q hq => ?_⟩⟩
        have gq := M6.sm.free hq
        have M8 := M6.grow (o := .tup ws) hq
        have ef2 := same_new (o := .tup ws) gq _ _ ef
        have lv := pr_len Fi.pr
        rw [List.length_map] at lv
        refine ⟨pf, _, _, rfl, rfl, M8.sm _ _ ef2, Nat.lt_of_le_of_lt (show vs.length ≤ 10 by omega) (by decide), ?_⟩
        have npq : q ≠ pf := (ne_of_none ef gq).symm
        have ts0 : TS Gi (upd (upd Gi q (.tup ws)) pf (.lst (vs ++ [.ref q]))) := (TS.of (same_new gq)).trans (TS.wr ef2)
        refine ⟨_, vs ++ [.ref q], ts ++ [rs], _, _, _, _, rfl, same_wr ((s.trans si).trans (same_new gq)) Fi.nw, ⟨upd_same, Fi.nw, ?_⟩, by rw [List.length_append, ln]; rfl, fun t ht => ?_, (M8.write ef2).mono (by omega)⟩
        · rw [List.map_append]
          refine pr_app (pr_map (fun _ _ => Pt.ts ((TS.of si).trans ts0)) Fi.pr) (.cons (.tup (SqT.of ?_) (ptAll_of (pr_map (fun _ _ => Pt.ts ts0) Fr.pr))) .nil)
          rw [upd_ne npq, upd_same]
        · rcases List.mem_append.mp ht with z | z
          · exact ok t z
          · rw [List.mem_singleton] at z
            subst z
            exact ⟨by omega, okr⟩
    · rintro σ H3 ⟨G, vs, ts, o6, o7, o8, o9, rfl, s, Fi, ln, ok, M4⟩
      refine ⟨_, rfl, pf, _, rfl, .inl ⟨SqL.of (M4.sm _ _ Fi.at_), fun q hq => ?_⟩⟩
      have gq := M4.sm.free hq
      have sq := same_new (o := .tup vs) gq
      exact k _ nn ts _ _ (s.trans sq) (.tup (SqT.of upd_same) (ptAll_of (pr_map (fun _ _ => Pt.same sq) Fi.pr))) ⟨nn1, nn4, by omega, by omega, ok⟩ ((M4.grow hq).mono (by omega))
end
end G

set_option Elab.async false
set_option maxRecDepth 100000
/-! The signs of a repr; how long the repr of a repr is. -/
namespace G
open PySem PySem.Spec PyProof.Rows StrLaws
def Sm (x : Str) : Prop := ∀ c ∈ x.cps.toList, c < 16 ^ 8
theorem sm_char (c : Char) : c.toNat < 16 ^ 8 := by
  have h := c.val.toNat_lt
  exact Nat.lt_of_lt_of_le h (by decide)
theorem sm_of (s : String) : Sm (Str.ofString s) := by
  intro c hc
  rw [Str.ofString_eq_toList] at hc
  obtain ⟨d, _, rfl⟩ := List.mem_map.mp (show c ∈ s.toList.map Char.toNat by simpa using hc)
  exact sm_char d
theorem sm_app {a b : Str} (ha : Sm a) (hb : Sm b) : Sm (a ++ b) := by
  intro c hc
  have e : (a ++ b).cps.toList = a.cps.toList ++ b.cps.toList := by
    show (a.cps ++ b.cps).toList = _
    simp
  rw [e] at hc
  exact (List.mem_append.mp hc).elim (ha c) (hb c)
theorem sm_char8 {q c : Nat} (hc : c < 16 ^ 8) : ∀ y ∈ Builtin.Str.reprChar q c, y < 16 ^ 8 := by
  have hx : ∀ (w : Nat), ∀ y ∈ (List.replicate (w - ((Nat.toDigits 16 c).map Char.toNat).length) 48 ++ (Nat.toDigits 16 c).map Char.toNat), y < 16 ^ 8 := by
    intro w y hy
    rcases List.mem_append.mp hy with h | h
    · rw [List.eq_of_mem_replicate h]
      decide
    · obtain ⟨d, _, rfl⟩ := List.mem_map.mp h
      exact sm_char d
  have two : ∀ a b : Nat, a < 16 ^ 8 → b < 16 ^ 8 → ∀ y ∈ [a, b], y < 16 ^ 8 := fun a b ha hb y hy => by
    simp only [List.mem_cons, List.not_mem_nil, or_false] at hy
    rcases hy with rfl | rfl <;> assumption
  have both : ∀ (a b w : Nat), a < 16 ^ 8 → b < 16 ^ 8 → ∀ y ∈ [a, b] ++ (List.replicate (w - ((Nat.toDigits 16 c).map Char.toNat).length) 48 ++ (Nat.toDigits 16 c).map Char.toNat), y < 16 ^ 8 := fun a b w ha hb y hy =>
    (List.mem_append.mp hy).elim (two a b ha hb y) (hx w y)
  unfold Builtin.Str.reprChar
  dsimp only
  repeat' split
  · exact two _ _ (by decide) hc
  · exact two _ _ (by decide) (by decide)
  · exact two _ _ (by decide) (by decide)
  · exact two _ _ (by decide) (by decide)
  · intro y hy
    rw [List.mem_singleton] at hy
    rw [hy]
    exact hc
  · exact both _ _ _ (by decide) (by decide)
  · exact both _ _ _ (by decide) (by decide)
  · exact both _ _ _ (by decide) (by decide)
theorem sm_quote (x : Str) : reprQuote x < 16 ^ 8 := by
  unfold reprQuote
  split <;> decide
theorem sm_repr {x : Str} (h : Sm x) : Sm (reprText x) := by
  have hq := sm_quote x
  have go : ∀ (l : List Nat) (acc : Array Nat), (∀ c ∈ l, c < 16 ^ 8) → (∀ y ∈ acc.toList, y < 16 ^ 8) → ∀ y ∈ (l.foldl (fun out c => out ++ (Builtin.Str.reprChar (reprQuote x) c).toArray) acc).toList, y < 16 ^ 8 := by
    intro l
    induction l with
    | nil => intro acc _ ha; exact ha
    | cons c l ih =>
      intro acc hl ha
      refine ih _ (fun d hd => hl d (List.mem_cons_of_mem _ hd)) fun y hy => ?_
      rw [Array.toList_append] at hy
      exact (List.mem_append.mp hy).elim (ha y) (sm_char8 (hl c (List.mem_cons_self ..)) y)
  intro c hc
  unfold reprText at hc
  dsimp only at hc
  rw [Array.toList_push, ← Array.foldl_toList] at hc
  rcases List.mem_append.mp hc with z | z
  · refine go x.cps.toList #[reprQuote x] h (fun y hy => ?_) c z
    rw [List.mem_singleton.mp hy]
    exact hq
  · rw [List.mem_singleton.mp z]
    exact hq
theorem sm_text : ∀ (ts : List Str) (k : Nat) (acc : Str), Sm acc → (∀ t ∈ ts, Sm t) → Sm (textFrom k acc ts)
  | [], _, _, h, _ => h
  | t :: ts, k, acc, h, ht => by
    refine sm_text ts (k + 1) _ (sm_app (sm_app h ?_) (ht t (List.mem_cons_self ..))) fun u hu => ht u (List.mem_cons_of_mem _ hu)
    exact sm_of _
theorem sm_join {sep : Str} (hs : Sm sep) : ∀ (ts : List Str), (∀ t ∈ ts, Sm t) → Sm (Str.join sep ts)
  | [], _ => fun c hc => by
    have z : c ∈ ([] : List Nat) := hc
    exact nomatch z
  | [x], h => h x (List.mem_cons_self ..)
  | x :: y :: r, h => sm_app (sm_app (h x (List.mem_cons_self ..)) hs) (sm_join hs (y :: r) fun t ht => h t (List.mem_cons_of_mem _ ht))
mutual
theorem sm_shown : ∀ d : PyData, d.leavesShort 200 = true → Sm d.shown
  | .none, _ => sm_of _
  | .bool b, _ => by
    unfold PyData.shown
    split <;> exact sm_of _
  | .int i, _ => by
    unfold PyData.shown
    exact sm_of _
  | .str x, h => by
    unfold PyData.shown
    refine sm_repr fun c hc => ?_
    simp only [PyData.leavesShort, List.all_eq_true, decide_eq_true_eq] at h
    exact h c hc
  | .list xs, h => by
    unfold PyData.shown listText
    refine sm_app (sm_text _ _ _ (sm_of _) (sm_shownAll xs ?_)) (sm_of _)
    simpa only [PyData.leavesShort] using h
  | .tuple xs, h => by
    unfold PyData.shown tupleText
    refine sm_app (sm_app (sm_of _) (sm_join (sm_of _) _ (sm_shownAll xs ?_))) (sm_of _)
    simpa only [PyData.leavesShort] using h
  | .dict kvs, h => by
    unfold PyData.shown dictText
    refine sm_app (sm_app (sm_of _) (sm_join (sm_of _) _ (sm_shownKv kvs ?_))) (sm_of _)
    simpa only [PyData.leavesShort] using h
theorem sm_shownAll : ∀ xs : List PyData, PyData.leavesShortAll 200 xs = true → ∀ t ∈ PyData.shownAll xs, Sm t
  | [], _ => fun _ h => nomatch h
  | x :: xs, h => fun t ht => by
    simp only [PyData.leavesShortAll, Bool.and_eq_true] at h
    rcases List.mem_cons.mp (show t ∈ x.shown :: PyData.shownAll xs from ht) with z | z
    · rw [z]
      exact sm_shown x h.1
    · exact sm_shownAll xs h.2 t z
theorem sm_shownKv : ∀ xs : List (PyData × PyData), PyData.leavesShortKv 200 xs = true → ∀ t ∈ PyData.shownKv xs, Sm t
  | [], _ => fun _ h => nomatch h
  | (k, v) :: xs, h => fun t ht => by
    simp only [PyData.leavesShortKv, Bool.and_eq_true] at h
    rcases List.mem_cons.mp (show t ∈ (k.shown ++ ": " ++ v.shown) :: PyData.shownKv xs from ht) with z | z
    · rw [z]
      exact sm_app (sm_app (sm_shown k h.1.1) (sm_of _)) (sm_shown v h.1.2)
    · exact sm_shownKv xs h.2 t z
end
/-- ("word", a text of so many signs) -/
theorem two_shown {t : Str} {n : Nat} (h : Sm t) (hl : t.length ≤ n) : (PyData.tuple [.str "word", .str t]).shown.length ≤ 10 * n + 60 := by
  have h1 := tupleText_len_le (PyData.shownAll [.str "word", .str t])
  have h2 := reprText_len t h
  have h3 : (reprText "word").length = 6 := by decide +kernel
  have e : (PyData.shownAll [.str "word", .str t]) = [reprText "word", reprText t] := by
    simp only [PyData.shownAll, PyData.shown]
  rw [e] at h1
  have e2 : (PyData.tuple [.str "word", .str t]).shown = tupleText [reprText "word", reprText t] := by
    simp only [PyData.shown, e]
  rw [e2]
  simp only [List.map_cons, List.map_nil, List.sum_cons, List.sum_nil, List.length_cons, List.length_nil] at h1
  omega
end G

set_option Elab.async false
set_option maxRecDepth 100000
set_option pp.maxSteps 300
namespace G
open PySem L2 PySem.Spec PyProof.Rows
/-! ### a new list, by its parts -/
section
variable {β : Type} {K : PySem.W.Frag} {F : Hp → V → β → Prop}
def Stays (F : Hp → V → β → Prop) : Prop := ∀ H H' v d, TS H H' → F H v d → F H' v d
theorem pr_ts (mono : Stays F) {H H' : Hp} (t : TS H H') {ys : List V} {ds : List β} (h : Paired (F H) ys ds) : Paired (F H') ys ds := pr_map (fun _ _ => mono _ _ _ _ t) h
/-- what the list at D holds after i turns -/
def Tn (F : Hp → V → β → Prop) (H1 : Hp) (ds : List β) (D : Addr) (i : Nat) (H : Hp) : Prop := H1 D = none ∧ Same H1 H ∧ ∃ ys, H D = some (.lst ys) ∧ Paired (F H) ys (ds.take i)
theorem take_one {ds : List β} {i : Nat} {d : β} (h : ds[i]? = some d) : ds.take (i + 1) = ds.take i ++ [d] := by
  rw [List.take_add_one, h]
  rfl
theorem tn_turn (mono : Stays F) {H1 H : Hp} {ds : List β} {D : Addr} {i : Nat} {d : β} {te : TE} {σ2 : L2.St} (p : Tn F H1 ds D i H) (hd : ds[i]? = some d) (hz : ds.length ≤ 40000)
    (he : ∀ (H' : Hp) (Q' : VK), Same H1 H' → (∀ v H2, Same H' H2 → F H2 v d → Q' v H2) → te σ2 H' Q') :
    tYes σ2 H fun b H3 => if b = true then te σ2 H3 fun y H4 => ∃ acc, H4 D = some (.lst acc) ∧ acc.length < sizeLine ∧ Tn F H1 ds D (i + 1) (upd H4 D (.lst (acc ++ [y]))) else Tn F H1 ds D (i + 1) H3 := by
  obtain ⟨p1, p2, ys, p3, p4⟩ := p
  simp only [tYes, if_true]
  refine he H _ p2 fun v H2 s f => ⟨ys, s _ _ p3, ?_, p1, ?_, ys ++ [v], upd_same, ?_⟩
  · have q := pr_len p4
    rw [List.length_take] at q
    exact Nat.lt_of_le_of_lt (show ys.length ≤ 40000 by omega) (by decide)
  · exact same_wr (p2.trans s) p1
  · have t : TS H2 (upd H2 D (.lst (ys ++ [v]))) := TS.wr (s _ _ p3)
    rw [take_one hd]
    exact pr_app (pr_ts mono ((TS.of s).trans t) p4) (.cons (mono _ _ _ _ t f) .nil)
theorem get_ds {ds : List β} {i n : Nat} (hl : ds.length = n) (h : i < n) : ∃ d, ds[i]? = some d := ⟨ds[i]'(by omega), List.getElem?_eq_getElem _⟩
/-- over a tuple -/
theorem lcT_new (mono : Stays F) {a : Addr} {xs : List V} {j : Nat} {te : TE} {vs : List Nat} {σ : L2.St} {H1 : Hp} {Qd : Hp → Prop} {D : Addr} (hD : H1 D = none) (hx : SqT K H1 a xs) {ds : List β} (hl : ds.length = xs.length) (hz : ds.length ≤ 40000)
    (hw : ∀ x, wipe ((wipe σ vs).set j (some x)) vs = wipe σ vs)
    (he : ∀ (i : Nat) (x : V) (d : β) (H' : Hp) (Q' : VK), xs[i]? = some x → ds[i]? = some d → Same H1 H' → (∀ v H2, Same H' H2 → F H2 v d → Q' v H2) → te ((wipe σ vs).set j (some x)) H' Q')
    (q : ∀ (ys : List V) (H2 : Hp), Same H1 H2 → H2 D = some (.lst ys) → Paired (F H2) ys ds → Qd H2) :
    ∃ W : Nat → Nat → Hp → Prop, (∃ m, W 0 m (upd H1 D (.lst []))) ∧ ∀ i m H, W i m H →
      ((Itt K a).stop i H ∧ Qd H) ∨ ((Itt K a).go i H ∧ ∃ Nx : Hp → Prop, (∀ H', Nx H' → ∃ m', m' < m ∧ W (i + 1) m' H') ∧ ∀ x H', (Itt K a).yld i H x H' → gName j x (wipe σ vs) H' fun σ2 H2 => wipe σ2 vs = wipe σ vs ∧ tYes σ2 H2 fun b H3 =>
        if b = true then te σ2 H3 fun y H4 => ∃ acc, H4 D = some (.lst acc) ∧ acc.length < sizeLine ∧ Nx (upd H4 D (.lst (acc ++ [y]))) else Nx H3) := by
  refine lc_tup (xs := xs) (Tn F H1 ds D) ⟨hD, same_new hD, [], upd_same, .nil⟩ (fun i H _ p => sqT_same p.2.1 hx) (fun i x H hi p => ?_) (fun H p => ?_)
  · obtain ⟨d, hd⟩ := get_ds hl (List.getElem?_eq_some_iff.mp hi).1
    exact ⟨hw x, tn_turn mono p hd hz fun H' Q' s f => he i x d H' Q' hi hd s f⟩
  · obtain ⟨p1, p2, ys, p3, p4⟩ := p
    rw [← hl, List.take_length] at p4
    exact q ys H p2 p3 p4
/-- over a range from 0 -/
theorem lcR_new (mono : Stays F) {n : Nat} {j : Nat} {te : TE} {vs : List Nat} {σ : L2.St} {H1 : Hp} {Qd : Hp → Prop} {D : Addr} {ds : List β} (hD : H1 D = none) (hl : ds.length = n) (hz : ds.length ≤ 40000)
    (hw : ∀ x, wipe ((wipe σ vs).set j (some x)) vs = wipe σ vs)
    (he : ∀ (i : Nat) (d : β) (H' : Hp) (Q' : VK), i < n → ds[i]? = some d → Same H1 H' → (∀ v H2, Same H' H2 → F H2 v d → Q' v H2) → te ((wipe σ vs).set j (some (.int (i : Int)))) H' Q')
    (q : ∀ (ys : List V) (H2 : Hp), Same H1 H2 → H2 D = some (.lst ys) → Paired (F H2) ys ds → Qd H2) :
    ∃ W : Nat → Nat → Hp → Prop, (∃ m, W 0 m (upd H1 D (.lst []))) ∧ ∀ i m H, W i m H →
      ((Itr 0 n).stop i H ∧ Qd H) ∨ ((Itr 0 n).go i H ∧ ∃ Nx : Hp → Prop, (∀ H', Nx H' → ∃ m', m' < m ∧ W (i + 1) m' H') ∧ ∀ x H', (Itr 0 n).yld i H x H' → gName j x (wipe σ vs) H' fun σ2 H2 => wipe σ2 vs = wipe σ vs ∧ tYes σ2 H2 fun b H3 =>
        if b = true then te σ2 H3 fun y H4 => ∃ acc, H4 D = some (.lst acc) ∧ acc.length < sizeLine ∧ Nx (upd H4 D (.lst (acc ++ [y]))) else Nx H3) := by
  refine lc_range (lo := 0) (n := n) (Tn F H1 ds D) ⟨hD, same_new hD, [], upd_same, .nil⟩ (fun i H hi p => ?_) (fun H p => ?_)
  · obtain ⟨d, hd⟩ := get_ds hl hi
    have e0 : (0 : Int) + (i : Int) = (i : Int) := Int.zero_add _
    rw [e0]
    exact ⟨hw _, tn_turn mono p hd hz fun H' Q' s f => he i d H' Q' hi hd s f⟩
  · obtain ⟨p1, p2, ys, p3, p4⟩ := p
    rw [← hl, List.take_length] at p4
    exact q ys H p2 p3 p4
/-- over a range object that stands in the heap -/
theorem ints_of {ys : List V} {zs : List Int} (h : Paired (fun v z => v = V.int z) ys zs) : ys = zs.map V.int := by
  induction h with
  | nil => rfl
  | cons e _ ih => rw [e, ih]; rfl
theorem bls_of {ys : List V} {zs : List Bool} (h : Paired (fun v z => v = V.bl z) ys zs) : ys = zs.map V.bl := by
  induction h with
  | nil => rfl
  | cons e _ ih => rw [e, ih]; rfl
end
/-! ### rows, tables, families as values -/
section
variable {K : PySem.W.Frag}
def IsInt (_ : Hp) (v : V) (z : Int) : Prop := v = .int z
def IsBl (_ : Hp) (v : V) (z : Bool) : Prop := v = .bl z
def IsRow (K : PySem.W.Frag) (H : Hp) (v : V) (r : List Int) : Prop := ∃ a, v = .ref a ∧ SqT K H a (r.map V.int)
def IsTab (K : PySem.W.Frag) (H : Hp) (v : V) (t : List (List Int)) : Prop := ∃ a xs, v = .ref a ∧ SqT K H a xs ∧ Paired (IsRow K H) xs t
def IsTabs (K : PySem.W.Frag) (H : Hp) (v : V) (ts : List (List (List Int))) : Prop := ∃ a xs, v = .ref a ∧ SqT K H a xs ∧ Paired (IsTab K H) xs ts
theorem st_int : Stays IsInt := fun _ _ _ _ _ h => h
theorem st_bl : Stays IsBl := fun _ _ _ _ _ h => h
theorem st_row : Stays (IsRow K) := fun _ _ _ _ t h => let ⟨a, e, q⟩ := h; ⟨a, e, sqT_ts t q⟩
theorem st_tab : Stays (IsTab K) := fun _ _ _ _ t h => let ⟨a, xs, e, q, p⟩ := h; ⟨a, xs, e, sqT_ts t q, pr_ts st_row t p⟩
theorem st_tabs : Stays (IsTabs K) := fun _ _ _ _ t h => let ⟨a, xs, e, q, p⟩ := h; ⟨a, xs, e, sqT_ts t q, pr_ts st_tab t p⟩
theorem isRow_of {H : Hp} {v : V} {r : List Int} (h : Pt K H v (rowD r)) : IsRow K H v r := by
  cases h with
  | @tup a xs ds h1 h2 =>
    refine ⟨a, rfl, ?_⟩
    have q : ∀ {xs : List V} {r : List Int}, Paired (Pt K H) xs (r.map PyData.int) → xs = r.map V.int := by
      intro xs r
      induction r generalizing xs with
      | nil => intro h; cases h; rfl
      | cons x r ih =>
        intro h
        cases h with
        | cons h1 h2 =>
          cases h1
          rw [ih h2]
          rfl
    rw [← q (of_ptAll h2)]
    exact h1
theorem pr_imp {α β γ : Type} {F : α → β → Prop} {F' : α → γ → Prop} {g : γ → β} (f : ∀ a c, F a (g c) → F' a c) : ∀ {cs : List γ} {xs : List α}, Paired F xs (cs.map g) → Paired F' xs cs
  | [], _, h => by cases h; exact .nil
  | c :: cs, _, h => by
    cases h with
    | cons h1 h2 => exact .cons (f _ _ h1) (pr_imp f h2)
theorem isTab_of {H : Hp} {v : V} {t : List (List Int)} (h : Pt K H v (tabD t)) : IsTab K H v t := by
  cases h with
  | @tup a xs ds h1 h2 => exact ⟨a, xs, rfl, h1, pr_imp (fun _ _ => isRow_of) (of_ptAll h2)⟩
theorem isTabs_of {H : Hp} {v : V} {ts : List (List (List Int))} (h : Pt K H v (tabsD ts)) : IsTabs K H v ts := by
  cases h with
  | @tup a xs ds h1 h2 => exact ⟨a, xs, rfl, h1, pr_imp (fun _ _ => isTab_of) (of_ptAll h2)⟩
theorem dp_row {H : Hp} {v : V} {r : List Int} (h : IsRow K H v r) : Dp K H v (rowD r) := by
  obtain ⟨a, rfl, h⟩ := h
  exact .tup h (dp_ints r)
theorem pr_out {α β γ : Type} {F : α → β → Prop} {F' : α → γ → Prop} {g : γ → β} (f : ∀ a c, F' a c → F a (g c)) : ∀ {cs : List γ} {xs : List α}, Paired F' xs cs → Paired F xs (cs.map g)
  | [], _, h => by cases h; exact .nil
  | c :: cs, _, h => by
    cases h with
    | cons h1 h2 => exact .cons (f _ _ h1) (pr_out f h2)
theorem dp_tab {H : Hp} {v : V} {t : List (List Int)} (h : IsTab K H v t) : Dp K H v (tabD t) := by
  obtain ⟨a, xs, rfl, h, p⟩ := h
  exact .tup h (dpAll_of (pr_out (F := Dp K H) (F' := IsRow K H) (g := rowD) (fun _ _ => dp_row) p))
/-- the things of a tuple of any data -/
theorem dq_items {H : Hp} {v : V} {ds : List PyData} (h : Dq K H v (.tuple ds)) : ∃ a xs, v = .ref a ∧ SqT K H a xs ∧ Paired (Dq K H) xs ds := by
  have q : ∀ {ds : List PyData} {xs : List V}, DdAll K H xs ds → Paired (Dq K H) xs ds := by
    intro ds
    induction ds with
    | nil => intro xs h; cases h; exact .nil
    | cons d ds ih =>
      intro xs h
      cases h with
      | cons h1 h2 => exact .cons (.inr h1) (ih h2)
  rcases h with h | h
  · cases h with
    | @tup a xs ds h1 h2 => exact ⟨a, xs, rfl, h1, pr_map (fun _ _ => .inl) (of_dpAll h2)⟩
  · cases h with
    | @tup a xs ds h1 h2 => exact ⟨a, xs, rfl, h1, q h2⟩
end
/-! ### is_below -/
abbrev sBelow : Stmt := top 9
def below (d : PyData) (lim : Int) : Bool := match d with
  | .int i => decide (0 ≤ i) && decide (i < lim)
  | _ => false
def spBelow (K : PySem.W.Frag) : Sp := fun vs H Q _ => ∃ (v : V) (d : PyData) (lim : Int), vs = [v, .int lim] ∧ Dq K H v d ∧ Q (.bl (below d lim)) H
structure TxU (mg : Str → Option Value) : Prop where
  isi : mg "isinstance" = none
  int : mg "int" = none
  bool : mg "bool" = none
  tup : mg "tuple" = none
  list : mg "list" = none
  len : mg "len" = none
  all : mg "all" = none
  sum : mg "sum" = none
  range : mg "range" = none
  enum : mg "enumerate" = none
  repr : mg "repr" = none
  min : mg "min" = none
section
variable {P : Program} {w : World} {K : PySem.W.Frag} {mg : Str → Option Value} {base : Heap} {f : Addr} {fd : FuncData}
theorem scBe : FnScope ["thing", "limit"] ["thing", "limit"] (defScope sBelow) := ⟨rfl, rfl, rfl, by decide +kernel, rfl, by decide +kernel, by decide +kernel⟩
abbrev sInteger : Stmt := top 8
def isInteger (d : PyData) : Bool := match d with
  | .int _ => true
  | _ => false
def spInteger (K : PySem.W.Frag) : Sp := fun vs H Q _ => ∃ (v : V) (d : PyData), vs = [v] ∧ Dq K H v d ∧ Q (.bl (isInteger d)) H
theorem scIg : FnScope ["thing"] ["thing"] (defScope sInteger) := ⟨rfl, rfl, rfl, by decide +kernel, rfl, by decide +kernel, by decide +kernel⟩
theorem ok_integer (F : Fun K "is_integer" "is_integer" sInteger f fd) (T : TxU mg) : FnOk P w K mg base CX0 1 f fd ["thing"] (spInteger K) := by
  refine F.ok scIg (fun vs H Q E h => ?_) (fun cdv A outer s H vs Q E hr h => ?_)
  · obtain ⟨v, d, rfl, _⟩ := h
    rfl
  · obtain ⟨v, d, rfl, hd, k⟩ := h
    refine ⟨_, pss_one (ps_ret (pe_and (pe_callB call_isi (by rfl) T.isi bt_isi (pa_cons (pv 0) (pa_cons (pe_bltn (v := .ty "int") (by rfl) T.int boot_int rfl) pa_nil)))
      (pe_one (pe_not (pe_callB call_isi (by rfl) T.isi bt_isi (pa_cons (pv 0) (pa_cons (pe_bltn (v := .ty "bool") (by rfl) T.bool bt_bool rfl) pa_nil))))))), ?_⟩
    refine ⟨_, rfl, ?_⟩
    refine ⟨_, _, _, _, _, rfl, .ty _, ty_dq hd, kI _, ?_⟩
    refine ⟨_, rfl, ?_⟩
    cases d with
    | none => exact iteF k
    | str x => exact iteF k
    | list x => exact iteF k
    | tuple x => exact iteF k
    | dict x => exact iteF k
    | bool b =>
      refine iteT ⟨_, rfl, ?_⟩
      refine ⟨_, _, _, _, _, rfl, .ty _, ty_dq hd, kBo _, ?_⟩
      exact ⟨_, rfl, k⟩
    | int i =>
      refine iteT ⟨_, rfl, ?_⟩
      refine ⟨_, _, _, _, _, rfl, .ty _, ty_dq hd, kBo _, ?_⟩
      exact ⟨_, rfl, k⟩
theorem ok_below {fG : Addr} {fdG : FuncData} (F : Fun K "is_below" "is_below" sBelow f fd) (mG : mg "is_integer" = some (.ref fG)) (kG : PySem.W.keepIn K (.ref fG) = true) (GG : FnOk P w K mg base CX0 1 fG fdG ["thing"] (spInteger K)) (bG : Binds K fdG ["thing"] []) : FnOk P w K mg base CX0 2 f fd ["thing", "limit"] (spBelow K) := by
  refine F.ok scBe (fun vs H Q E h => ?_) (fun cdv A outer s H vs Q E hr h => ?_)
  · obtain ⟨v, d, lim, rfl, _⟩ := h
    rfl
  · obtain ⟨v, d, lim, rfl, hd, k⟩ := h
    refine ⟨_, pss_one (ps_ret (pe_and (pe_call GG hr (by rfl) mG kG bG .nil pass0 (pa_cons (pv 0) pa_nil)) (pe_one (pe_chain op_le op_lt pe_int (pv 0) (pv 1))))), ?_⟩
    refine ⟨_, rfl, v, d, rfl, hd, _, rfl, ?_⟩
    cases d with
    | none => exact iteF k
    | str x => exact iteF k
    | list x => exact iteF k
    | tuple x => exact iteF k
    | dict x => exact iteF k
    | bool b => exact iteF k
    | int i =>
      refine iteT ?_
      have ev : v = .int i := by
        rcases hd with h | h <;> cases h <;> rfl
      subst ev
      refine ⟨_, rfl, _, _, rfl, rfl, _, rfl, ?_⟩
      have kk : Q (.bl (decide (0 ≤ i) && decide (i < lim))) H := k
      refine ite2 (fun e => ?_) (fun e => ?_)
      · rw [e, Bool.true_and] at kk
        exact ⟨_, rfl, _, _, rfl, rfl, kk⟩
      · have e' : decide (0 ≤ i) = false := by
          cases hb : decide (0 ≤ i) with
          | true => exact absurd hb e
          | false => rfl
        rw [e', Bool.false_and] at kk
        exact kk
end
end G

set_option Elab.async false
set_option maxRecDepth 100000
set_option pp.maxSteps 300
namespace G
open PySem L2 PySem.Spec PyProof.Rows
def rTupOf (K : PySem.W.Frag) : List V → Hp → VK → Prop := fun xs H Q => ∃ p ys, xs = [.ref p] ∧ ((SqL K H p ys ∧ ∀ l, H l = none → Q (.ref l) (upd H l (.tup ys))) ∨ (SqT K H p ys ∧ Q (.ref p) H))
def rLenQ (K : PySem.W.Frag) : List V → Hp → VK → Prop := fun xs H Q => ∃ p ys, xs = [.ref p] ∧ (SqL K H p ys ∨ SqT K H p ys) ∧ Q (.int ys.length) H
theorem bt_all : bootBuiltins "all" = some (.builtin "all") := by decide +kernel
theorem bt_sum : bootBuiltins "sum" = some (.builtin "sum") := by decide +kernel
theorem bt_range : bootBuiltins "range" = some (.type "range") := by decide +kernel
theorem pr_at {α β : Type} {F : α → β → Prop} : ∀ {xs : List α} {ys : List β} {i : Nat} {y : β}, Paired F xs ys → ys[i]? = some y → ∃ x, xs[i]? = some x ∧ F x y
  | _, _, _, _, .nil, h => by simp at h
  | _, _, 0, _, .cons r _, h => by
    simp at h
    subst h
    exact ⟨_, rfl, r⟩
  | _, _, i + 1, _, .cons _ t, h => by
    obtain ⟨y, h1, h2⟩ := pr_at (i := i) t (by simpa using h)
    exact ⟨y, by simpa using h1, h2⟩
theorem getD_at {α : Type} {l : List α} {i : Nat} (d : α) (h : i < l.length) : l[i]? = some (l.getD i d) := by
  rw [List.getD_eq_getElem?_getD, List.getElem?_eq_getElem h]
  rfl
end G

set_option Elab.async false
set_option maxRecDepth 100000
set_option pp.maxSteps 300
namespace G
open PySem L2 PySem.Spec PyProof.Rows
structure TxW (K : PySem.W.Frag) (mg : Str → Option Value) (x : Str) (fB : Addr) : Prop where
  at_ : mg x = some (.ref fB)
  kp : PySem.W.keepIn K (.ref fB) = true
section
variable {K : PySem.W.Frag}
theorem tab_same {H H' : Hp} {v : V} {t : List (List Int)} (s : Same H H') (h : IsTab K H v t) : IsTab K H' v t := st_tab _ _ _ _ (TS.of s) h
theorem row_same {H H' : Hp} {v : V} {t : List Int} (s : Same H H') (h : IsRow K H v t) : IsRow K H' v t := st_row _ _ _ _ (TS.of s) h
end
theorem dec_ij (i j : Nat) : decide (V.int (i : Int) = V.int (j : Int)) = decide (i = j) := by
  by_cases h : i = j
  · subst h
    simp
  · rw [decide_eq_false h]
    exact decide_eq_false fun e => h (by injection e with e; omega)
end G

set_option Elab.async false
set_option maxRecDepth 100000
set_option pp.maxSteps 300
namespace G
open PySem L2 PySem.Spec PyProof.Rows
/-! ### is_row, is_table, of any data -/
def isRowD (d : PyData) (n : Nat) : Bool := match d with
  | .tuple ds => decide (ds.length = n) && (ds.map (below · 10)).all id
  | _ => false
def isTabD (d : PyData) : Bool := match d with
  | .tuple ds => decide (1 ≤ ds.length) && decide (ds.length ≤ 4) && (ds.map (isRowD · ds.length)).all id
  | _ => false
abbrev sIsRow : Stmt := top 10
abbrev sIsTab : Stmt := top 11
def spIsRow (K : PySem.W.Frag) : Sp := fun vs H Q _ => ∃ (v : V) (d : PyData) (n : Nat), vs = [v, .int (n : Int)] ∧ Dq K H v d ∧ n ≤ 10 ∧ ∀ H', Same H H' → Q (.bl (isRowD d n)) H'
def spIsTab (K : PySem.W.Frag) : Sp := fun vs H Q _ => ∃ (v : V) (d : PyData), vs = [v] ∧ Dq K H v d ∧ ∀ H', Same H H' → Q (.bl (isTabD d)) H'
theorem Dq.not_tup {K : PySem.W.Frag} {H : Hp} {v : V} {d : PyData} (_ : Dq K H v d) : isTu d = false ∨ ∃ ds, d = .tuple ds := by
  cases d <;> first | exact .inl rfl | exact .inr ⟨_, rfl⟩
theorem dec_ne (i j : Nat) : (!decide (V.int (i : Int) = V.int (j : Int))) = !decide (i = j) := by rw [dec_ij]
section
variable {P : Program} {w : World} {K : PySem.W.Frag} {mg : Str → Option Value} {base : Heap} {f fB : Addr} {fd fdB : FuncData}
theorem scIR : FnScope ["thing", "many", "entry"] ["thing", "many"] (defScope sIsRow) := ⟨rfl, rfl, rfl, by decide +kernel, rfl, by decide +kernel, by decide +kernel⟩
theorem ok_isRow (F : Fun K "is_row" "is_row" sIsRow f fd) (T : TxU mg) {t9 : Tok} (m9 : mg "MOST_ENTRY" = some (.int 9 t9)) (R : TxW K mg "is_below" fB) (GB : FnOk P w K mg base CX0 2 fB fdB ["thing", "limit"] (spBelow K)) (bB : Binds K fdB ["thing", "limit"] []) :
    FnOk P w K mg base CX0 3 f fd ["thing", "many"] (spIsRow K) := by
  refine F.ok scIR (fun vs H Q E h => ?_) (fun cdv A outer s H vs Q E hr h => ?_)
  · obtain ⟨v, d, n, rfl, _⟩ := h
    rfl
  · obtain ⟨v, d, n, rfl, hd, h10, k⟩ := h
    refine ⟨_, pss_cons (ps_if (pw_or (pt_not (pt_val (pe_callB call_isi (by rfl) T.isi bt_isi (pa_cons (pv 0) (pa_cons (pe_bltn (v := .ty "tuple") (by rfl) T.tup bt_tup rfl) pa_nil)))))
        (pw_or1 (pt_cmpR op_ne (pe_callB call_len_seq (by rfl) T.len PySem.boot_len (pa_cons (pv 0) pa_nil)) (pv 1) (nomark _)))).pt (pss_one (ps_ret pe_bl)) pss_nil)
      (pss_one (ps_ret (pe_callB (cr_all (by rfl)) (by rfl) T.all bt_all (pa_cons
        (pe_lc (own := [("entry", 2)]) (g := gName 2) (tt := tYes) (by rfl) scIR.nd (pi_tup (pv 0)) (blkOk_by (own := [("entry", 2)]) (N := ["thing", "many", "entry"]) (sc := defScope sIsRow) (by decide +kernel)) (fun _ _ _ _ _ => pg_name (i := 2) scIR.nd rfl (Or.inl rfl)) (fun _ _ _ _ _ => pts_nil)
          (fun _ _ _ _ _ => pe_call GB hr (by rfl) R.at_ R.kp bB .nil pass0 (pa_cons (pv 2) (pa_cons (pe_op op_add (pe_glob (v := .int 9) (by rfl) m9 ⟨_, rfl⟩) pe_int) pa_nil)))) pa_nil)))), ?_⟩
    refine ⟨_, rfl, ?_⟩
    refine ⟨_, _, _, _, _, rfl, .ty _, ty_dq hd, kTu _, ?_⟩
    refine ⟨_, rfl, ?_⟩
    rcases hd.not_tup with h0 | ⟨ds, rfl⟩
    · rw [h0]
      have e : isRowD d n = false := by cases d <;> first | rfl | cases h0
      rw [e] at k
      exact iteT (iteT (k _ (Same.refl _)))
    · obtain ⟨a, xs, rfl, ha, hp⟩ := dq_items hd
      have lx := pr_len hp
      refine iteF ?_
      refine ⟨_, rfl, a, xs, rfl, .inr ha, _, rfl, rfl, _, rfl, ?_⟩
      rw [dec_ne, lx]
      have kk : ∀ H', Same H H' → Q (.bl (decide (ds.length = n) && (ds.map (below · 10)).all id)) H' := k
      by_cases hn : ds.length = n
      · rw [decide_eq_true hn] at kk ⊢
        refine iteF ?_
        refine ⟨_, rfl, a, rfl, ⟨xs, ha⟩, fun D hD => lcT_new (F := IsBl) st_bl hD ha (ds := ds.map (below · 10)) (by rw [List.length_map, lx]) (by rw [List.length_map]; omega) (fun _ => rfl) (fun i x b H2 Q2 hi hb s2 k2 => ?_) (fun ys H2 s2 hD2 hp2 => ?_)⟩
        · obtain ⟨y, hy, hf⟩ := pr_get hp hi
          rw [List.getElem?_map, hy] at hb
          have eb : below y 10 = b := Option.some.inj hb
          refine ⟨_, rfl, _, _, rfl, rfl, x, y, 10, rfl, hf.same s2, ?_⟩
          rw [eb]
          exact k2 _ _ (Same.refl _) rfl
        · have e := bls_of hp2
          subst e
          exact ⟨D, _, rfl, SqL.of hD2, kk _ s2⟩
      · rw [decide_eq_false hn, Bool.false_and] at kk
        rw [decide_eq_false hn]
        exact iteT (kk _ (Same.refl _))
theorem scIT : FnScope ["thing", "row"] ["thing"] (defScope sIsTab) := ⟨rfl, rfl, rfl, by decide +kernel, rfl, by decide +kernel, by decide +kernel⟩
theorem ok_isTab (F : Fun K "is_table" "is_table" sIsTab f fd) (T : TxU mg) {t4 : Tok} (m4 : mg "MOST_PLACES" = some (.int 4 t4)) (R : TxW K mg "is_row" fB) (GB : FnOk P w K mg base CX0 3 fB fdB ["thing", "many"] (spIsRow K)) (bB : Binds K fdB ["thing", "many"] []) :
    FnOk P w K mg base CX0 4 f fd ["thing"] (spIsTab K) := by
  refine F.ok scIT (fun vs H Q E h => ?_) (fun cdv A outer s H vs Q E hr h => ?_)
  · obtain ⟨v, d, rfl, _⟩ := h
    rfl
  · obtain ⟨v, d, rfl, hd, k⟩ := h
    refine ⟨_, pss_cons (ps_if (pw_or (pt_not (pt_val (pe_callB call_isi (by rfl) T.isi bt_isi (pa_cons (pv 0) (pa_cons (pe_bltn (v := .ty "tuple") (by rfl) T.tup bt_tup rfl) pa_nil)))))
        (pw_or1 (pt_not (pt_chain op_le op_le pe_int (pe_callB call_len_seq (by rfl) T.len PySem.boot_len (pa_cons (pv 0) pa_nil)) (pe_glob (v := .int 4) (by rfl) m4 ⟨_, rfl⟩))))).pt (pss_one (ps_ret pe_bl)) pss_nil)
      (pss_one (ps_ret (pe_callB (cr_all (by rfl)) (by rfl) T.all bt_all (pa_cons
        (pe_lc (own := [("row", 1)]) (g := gName 1) (tt := tYes) (by rfl) scIT.nd (pi_tup (pv 0)) (blkOk_by (own := [("row", 1)]) (N := ["thing", "row"]) (sc := defScope sIsTab) (by decide +kernel)) (fun _ _ _ _ _ => pg_name (i := 1) scIT.nd rfl (Or.inl rfl)) (fun _ _ _ _ _ => pts_nil)
          (fun _ _ _ _ _ => pe_call GB hr (by rfl) R.at_ R.kp bB .nil pass0 (pa_cons (pv 1) (pa_cons (pe_callB (r := rLenQ K) call_len_seq (by rfl) T.len PySem.boot_len (pa_cons (pv 0) pa_nil)) pa_nil)))) pa_nil)))), ?_⟩
    refine ⟨_, rfl, ?_⟩
    refine ⟨_, _, _, _, _, rfl, .ty _, ty_dq hd, kTu _, ?_⟩
    refine ⟨_, rfl, ?_⟩
    rcases hd.not_tup with h0 | ⟨ds, rfl⟩
    · rw [h0]
      have e : isTabD d = false := by cases d <;> first | rfl | cases h0
      rw [e] at k
      exact iteT (iteT (k _ (Same.refl _)))
    · obtain ⟨a, xs, rfl, ha, hp⟩ := dq_items hd
      have lx := pr_len hp
      refine iteF ?_
      have kk : ∀ H', Same H H' → Q (.bl (decide (1 ≤ ds.length) && decide (ds.length ≤ 4) && (ds.map (isRowD · ds.length)).all id)) H' := k
      refine ⟨_, rfl, a, xs, rfl, .inr ha, _, _, rfl, rfl, _, rfl, ?_⟩
      have c1 : decide ((1 : Int) ≤ (xs.length : Int)) = decide (1 ≤ ds.length) := by
        rw [lx]
        by_cases h : 1 ≤ ds.length
        · rw [decide_eq_true h]; exact decide_eq_true (by omega)
        · rw [decide_eq_false h]; exact decide_eq_false (by omega)
      have c4 : decide ((xs.length : Int) ≤ 4) = decide (ds.length ≤ 4) := by
        rw [lx]
        by_cases h : ds.length ≤ 4
        · rw [decide_eq_true h]; exact decide_eq_true (by omega)
        · rw [decide_eq_false h]; exact decide_eq_false (by omega)
      rw [c1]
      by_cases h1 : 1 ≤ ds.length
      · rw [decide_eq_true h1, Bool.true_and] at kk
        rw [decide_eq_true h1]
        refine iteT ⟨_, _, rfl, rfl, ?_⟩
        refine ⟨_, rfl, ?_⟩
        rw [c4]
        by_cases h4 : ds.length ≤ 4
        · rw [decide_eq_true h4, Bool.true_and] at kk
          rw [decide_eq_true h4]
          refine iteF ?_
          refine ⟨_, rfl, a, rfl, ⟨xs, ha⟩, fun D hD => lcT_new (F := IsBl) st_bl hD ha (ds := ds.map (isRowD · ds.length)) (by rw [List.length_map, lx]) (by rw [List.length_map]; omega) (fun _ => rfl) (fun i x b H2 Q2 hi hb s2 k2 => ?_) (fun ys H2 s2 hD2 hp2 => ?_)⟩
          · obtain ⟨y, hy, hf⟩ := pr_get hp hi
            rw [List.getElem?_map, hy] at hb
            have eb : isRowD y ds.length = b := Option.some.inj hb
            refine ⟨_, rfl, _, rfl, a, xs, rfl, .inr (sqT_same s2 ha), ?_⟩
            rw [lx]
            refine ⟨x, y, ds.length, rfl, hf.same s2, by omega, fun H3 s3 => ?_⟩
            rw [eb]
            exact k2 _ _ s3 rfl
          · have e := bls_of hp2
            subst e
            exact ⟨D, _, rfl, SqL.of hD2, kk _ s2⟩
        · rw [decide_eq_false h4, Bool.false_and] at kk
          rw [decide_eq_false h4]
          exact iteT (kk _ (Same.refl _))
      · rw [decide_eq_false h1, Bool.false_and, Bool.false_and] at kk
        rw [decide_eq_false h1]
        exact iteF ⟨_, rfl, iteT (kk _ (Same.refl _))⟩
end
end G

set_option Elab.async false
set_option maxRecDepth 100000
/-! enumerate of a tuple. -/
namespace G
open PySem L2 PySem.Spec PyProof.Rows
set_option maxHeartbeats 1000000 in
theorem enumT_new (t0 : Addr) (items : Array Value) :
    Meets (Builtin.«enumerate.__new__» ⟨[.type "enumerate", .ref t0], []⟩) (fun _ R s => s.heap.IsTuple t0 items ∧
      R (.ok (.ret (.ref (s.heap.push { cls := .type "tuple_iterator", data := .fields #[.ref t0, .int 0 0] }).objs.size)))
        { s with heap := (s.heap.push { cls := .type "tuple_iterator", data := .fields #[.ref t0, .int 0 0] }).push { cls := .type "enumerate", data := .fields #[.none, .bool false, .ref s.heap.objs.size, rawInt 0, .none, .none] } }) :=
  .of_wp fun prog w A R st0 h => by
    obtain ⟨hp, g, d, tk, os⟩ := st0
    obtain ⟨hT, h⟩ := h
    have hsub := sub_enumerate
    have go : ∀ {A' : Around} {E : Value → Shared → Prop} {Q : Value → Shared → Prop}, Q (.ref hp.objs.size) ⟨hp.push { cls := .type "tuple_iterator", data := .fields #[.ref t0, .int 0 0] }, g, d, tk, os⟩ → wpAny (model prog w) A' (pyIter (.ref t0)) Q E ⟨hp, g, d, tk, os⟩ :=
      fun q => wpAny_pyIter_tuple (s := ⟨hp, g, d, tk, os⟩) hT q
    wp_walk using go
    refine wpAny_stack_any fun st => wpAny_pure ?_
    split
    · rename_i c _ _ _ _ _
      cases (c == Value.type "enumerate") <;> (wp_walk using go; exact ⟨_, rfl, h⟩)
    · wp_walk using go
      exact ⟨_, rfl, h⟩
section
variable {prog : Program} {w : World} {A : Around} {E : Value → Shared → Prop} {s : Shared}
theorem enumT_call {t0 : Addr} {items : Array Value} {Q : Value → Shared → Prop} (hT : s.heap.IsTuple t0 items)
    (h : ∀ h', IsEnum h' (s.heap.objs.size + 1) s.heap.objs.size 0 .none → h'.IsTupleIter s.heap.objs.size t0 0 → (∀ b o, s.heap.get? b = some o → h'.get? b = some o) → Q (.ref (s.heap.objs.size + 1)) { s with heap := h' }) :
    wpAny (model prog w) A (call (.type "enumerate") [.ref t0]) Q E s := by
  refine callType_new F.called_enumerate (by decide) (F.typeCall_enumerate_1 _) (F.newCall_enumerate_1 _) (fun obj => F.args_object_init_2 obj _) F.entry_enumerate_new (enumT_new t0 items) ⟨hT, ?_⟩
  generalize hi : (⟨.type "tuple_iterator", Option.none, .fields #[.ref t0, .int 0 0], #[]⟩ : Obj) = oi
  have hz : (s.heap.push oi).objs.size = s.heap.objs.size + 1 := Heap.size_push ..
  show _ ∧ _
  have he := Heap.get?_push_size (s.heap.push oi) (o := { cls := .type "enumerate", data := .fields #[.none, .bool false, .ref s.heap.objs.size, rawInt 0, .none, .none] }) rfl
  rw [hz] at he
  rw [hz]
  refine ⟨⟨_, he, rfl⟩, h _ he ?_ fun b o x => Heap.get?_push_of_some _ (Heap.get?_push_of_some _ x)⟩
  subst hi
  exact ⟨_, Heap.get?_push_of_some _ (Heap.get?_push_size _ rfl), rfl, rfl⟩
end
/-- the tuple at a, each item in a new pair -/
def IteT (K : PySem.W.Frag) (a : Addr) : It :=
  ⟨fun i H => ∃ (xs : List V) (x : V), SqT K H a xs ∧ xs[i]? = some x, fun i H v H' => ∃ T x, v = .ref T ∧ H T = none ∧ H' = upd H T (.tup [.int (i : Nat), x]) ∧ ∀ xs, SqT K H a xs → xs[i]? = some x, fun i H => ∃ xs : List V, SqT K H a xs ∧ xs.length ≤ i⟩
theorem apart_tup {h : Heap} {t it : Addr} {items : Array Value} {i : Nat} (a : h.IsTuple t items) (b : h.IsTupleIter it t i) : t ≠ it := fun z => by
  subst z
  obtain ⟨o, e, c, _⟩ := a
  obtain ⟨o', e', c', _⟩ := b
  rw [e] at e'
  cases e'
  rw [c] at c'
  exact absurd c' (by decide)
theorem apart_enum {h : Heap} {t e it : Addr} {items : Array Value} {i : Int} {old : Value} (a : h.IsTuple t items) (b : IsEnum h e it i old) : e ≠ t := fun z => by
  subst z
  obtain ⟨o, q, c, _⟩ := a
  have b' := b
  unfold IsEnum at b'
  rw [q] at b'
  cases b'
  exact absurd (show Value.type "enumerate" = Value.type "tuple" from c) (by decide)
theorem turn_enumT {P : Program} {w : World} {K : PySem.W.Frag} {elts : List Expr} {kk : Nat} {tpos : Pos} (a e it : Addr) :
    Turn P w K (.Tuple elts kk tpos) (IteT K a) [e, it] e (fun i h => (∃ old, IsEnum h e it ((i : Nat) : Int) old) ∧ h.IsTupleIter it a i ∧ e ≠ it) where
  mem := by simp
  obj := fun i h st b hb => by
    obtain ⟨⟨old, he⟩, ⟨o, ho, hc, hd⟩, _⟩ := st
    rcases (show b = e ∨ b = it by simpa using hb) with z | z
    · subst z
      exact ⟨_, he, fun v q => nomatch q⟩
    · subst z
      exact ⟨o, ho, fun v q => by rw [hd] at q; cases q⟩
  keep := fun i h h' st k => let ⟨⟨old, he⟩, hi, hne⟩ := st; ⟨⟨old, k e (by simp) _ he⟩, hi.at fun o q => k it (by simp) o q, hne⟩
  item := by
    intro X hP hw hK hc i pins s σ H E I hf st hg
    subst hP hw hK
    obtain ⟨⟨old, he⟩, hit, hne⟩ := st
    obtain ⟨xs, x, hq, hx⟩ := hg
    obtain ⟨its, rv, p, hz⟩ := I.tuple hq
    obtain ⟨u, hu, ru⟩ := rv.get hx
    have hp : s.heap.IsTuple a its.toArray := p
    have n1 := apart_tup hp hit
    have n2 := apart_enum hp he
    have hel : e < s.heap.objs.size := Heap.lt_size he
    have hil : it < s.heap.objs.size := by obtain ⟨_, q, _⟩ := hit; exact Heap.lt_size q
    have hi : i < its.toArray.size := by
      have := (List.getElem?_eq_some_iff.mp hu).1
      simpa using this
    refine wpAny_pyNext_enum_itemD (Draws.tuple (A := X.A.in1) (I.ok.hd hc) it a n1 its.toArray) he ⟨hit, hp⟩ hi hne (by simp [hne, n2]) fun x' h' tk hx' ho hst' hT hsz hk => ?_
    have ex : x' = u := by
      have q : its.toArray[i]? = some x' := hx'
      rw [List.getElem?_toArray, hu] at q
      exact (Option.some.inj q).symm
    subst ex
    refine ⟨_, rfl, wpAny_letOwnedTupleGo_enum (s := { s with heap := h', toks := tk + 1 }) ho fun h'' he' sb => ?_⟩
    have hT2 : h''.get? s.heap.objs.size = some { cls := .type "tuple", data := .seq #[.int i tk, x'] } := (sb.2 _ (Nat.ne_of_gt hel)).trans hT
    have fresh : ObjOk X.prog X.w (upd H s.heap.objs.size (.tup [.int (i : Nat), x])) h'' s.heap.objs.size (.tup [.int (i : Nat), x]) := by
      refine ⟨?_, [.int i tk, x'], .cons ⟨_, rfl⟩ (.cons ru .nil), ⟨_, hT2, rfl, _, rfl⟩⟩
      show 2 ≤ sizeLine
      decide
    have J : Inv X pins σ (upd H s.heap.objs.size (.tup [.int (i : Nat), x])) { s with heap := h'', toks := tk + 1 } :=
      I.turnedNew (ch := [e, it]) (fun b ob hb q => (sb.2 b (fun z => hb (by simp [z]))).trans (hk b ob (fun z => hb (by simp [z])) (fun z => hb (by simp [z])) q)) hf (Nat.le_refl _) fresh
    refine ⟨.ref s.heap.objs.size, _, J, rfl, ⟨_, x, rfl, I.hok.fresh (Nat.le_refl _), rfl, fun ys hy => by rw [I.tuple_inj hy hq]; exact hx⟩, ⟨⟨x', ?_⟩, hst'.1.at fun o q => (sb.2 it (Ne.symm hne)).trans q, hne⟩, fun b hb => ?_⟩
    · have e1 : ((i + 1 : Nat) : Int) = (i : Int) + 1 := by omega
      rw [e1]
      exact he'
    · have hb' : b < s.heap.objs.size := by
        rcases (show b = e ∨ b = it by simpa using hb) with z | z
        · rw [z]; exact hel
        · rw [z]; exact hil
      rw [upd_ne (Nat.ne_of_lt hb')]
      exact (hf b hb).1
  done := by
    intro X hP hw hK hc i pins s σ H E I hf st hg
    subst hP hw hK
    obtain ⟨⟨old, he⟩, hit, hne⟩ := st
    obtain ⟨xs, hq, hx⟩ := hg
    obtain ⟨its, rv, p, hz⟩ := I.tuple hq
    have hp : s.heap.IsTuple a its.toArray := p
    obtain ⟨f0, f1, f2, f3, f4, f5⟩ := hf it (by simp)
    have hl := rv.length
    have hT : s.TypeIs (.ref e) "enumerate" := ⟨_, he, rfl⟩
    have nx : its.toArray[i]? = none := by simp; omega
    unfold pyNext
    refine wpAny_bind (wpAny_attempt (wpAny_callSpecial?_slot (name := Str.ofString "__next__") hT F.slot_enumerate_next (wpAny_call_entry F.slot_enumerate_next hT F.entry_enumerate_next ?_ (F.args_enumerate_next_1 _))))
    show wpAny _ _ (field (.ref e) 2 >>= _) _ _ _
    refine wpAny_bind (wpAny_field he rfl (x := .ref it) rfl (wpAny_bind (wpAny_nextOf_tuple_end (A := X.A.in1) (I.ok.hd hc) hit hp nx fun h' y he' hx' => ?_)))
    obtain ⟨o, ho, hc'⟩ := hx'
    exact wpAny_bind (wpAny_isInstance (T := "StopIteration") (b := true) ⟨o, ho, hc'⟩ isSubtype_stop (wpAny_pure ⟨rfl, I.turned (t' := s.toks) (fun b o hb q => he' b o hb q) f0 f1 f3 f4 f5⟩))
  self := fun A i s Q E st h => let ⟨⟨_, he⟩, _⟩ := st; wpAny_pyIter_enum he h
def iEnumA (K : PySem.W.Frag) (ta : TA) : TI := fun σ H R => ta σ H fun vs H1 => ∃ a xs, vs = [.ref a] ∧ ((SqL K H1 a xs ∧ R (Ite K a) H1) ∨ (SqT K H1 a xs ∧ R (IteT K a) H1))
theorem pi_enumA {X : Cx} {e : Expr} {ta : TA} {p pos tpos : Pos} {elts : List Expr} {kk : Nat} (hg : Gl X "enumerate") (hm : X.mg "enumerate" = none) (ha : PA X [e] ta) (hs : starEach [e] X.env = [(false, eval e X.env)] := by rfl) :
    PI X (.Tuple elts kk tpos) (.Call (.Name "enumerate" p) [e] [] pos) (iEnumA X.K ta) := by
  refine ⟨fun pins s σ H R I h => ?_⟩
  refine Call_ (ld_blt I hg hm boot_enumerate (PyProof.Rows.callWith_type1 (thn (ha.run pos pins s σ H _ I h) fun us s1 ⟨vs, H1, I1, r1, q1⟩ => ?_) hs rfl))
  obtain ⟨a, xs, ex, hq⟩ := q1
  subst ex
  cases r1 with
  | cons r rr =>
    cases rr
    cases r
    have own : ∀ b ∈ [s1.heap.objs.size + 1, s1.heap.objs.size], s1.heap.objs.size ≤ b := fun b hb => by
      rcases (show b = s1.heap.objs.size + 1 ∨ b = s1.heap.objs.size by simpa using hb) with z | z <;> omega
    rcases hq with ⟨hq, q⟩ | ⟨hq, q⟩
    · obtain ⟨its, rv, p', hz⟩ := I1.list hq
      refine call_enumerate_list p'.isList fun h' he hit hsz hk => wpAny_pyIter_enum he ?_
      exact ⟨s1.heap.objs.size + 1, [s1.heap.objs.size + 1, s1.heap.objs.size], _, _, H1, rfl, I1.kept (t' := s1.toks) hk, turn_enum a _ _, ⟨⟨.none, he⟩, hit, Nat.succ_ne_self _⟩, fun b hb => I1.fpOk (own b hb) (I1.hok.fresh (own b hb)), q⟩
    · obtain ⟨its, rv, p', hz⟩ := I1.tuple hq
      refine enumT_call (show s1.heap.IsTuple a its.toArray from p') fun h' he hit hk => wpAny_pyIter_enum he ?_
      exact ⟨s1.heap.objs.size + 1, [s1.heap.objs.size + 1, s1.heap.objs.size], _, _, H1, rfl, I1.kept (t' := s1.toks) hk, turn_enumT a _ _, ⟨⟨.none, he⟩, hit, Nat.succ_ne_self _⟩, fun b hb => I1.fpOk (own b hb) (I1.hok.fresh (own b hb)), q⟩
/-- one for both -/
theorem for_enumA {K : PySem.W.Frag} {a : Addr} {xs : List V} {g : TG} {tb : L2.TS} {D : Ends} {σ : L2.St} {H : Hp} {J : It} (hJ : (J = Ite K a ∧ ∀ H', Same H H' → SqL K H' a xs) ∨ (J = IteT K a ∧ ∀ H', Same H H' → SqT K H' a xs))
    (Pv : Nat → L2.St → Hp → Prop) (h0 : Pv 0 σ H) (hl : ∀ i σ' H', Pv i σ' H' → Same H H')
    (hs : ∀ i x σ H T, xs[i]? = some x → Pv i σ H → H T = none → g (.ref T) σ (upd H T (.tup [.int (i : Nat), x])) fun σ2 H2 => tb { D with nx := Pv (i + 1), ct := Pv (i + 1), bk := D.nx } σ2 H2)
    (hd : ∀ σ H, Pv xs.length σ H → D.nx σ H) :
    ∃ W : Nat → Nat → L2.St → Hp → Prop, (∃ m, W 0 m σ H) ∧ ∀ i m σ H, W i m σ H →
      (J.stop i H ∧ D.nx σ H) ∨ (J.go i H ∧ ∃ N : L2.St → Hp → Prop, (∀ σ' H', N σ' H' → ∃ m', m' < m ∧ W (i + 1) m' σ' H') ∧
        ∀ x H', J.yld i H x H' → g x σ H' fun σ2 H2 => tb { D with nx := N, ct := N, bk := D.nx } σ2 H2) := by
  refine ⟨fun i m σ H => m + i = xs.length ∧ Pv i σ H, ⟨xs.length, rfl, h0⟩, ?_⟩
  rintro i m σ1 H1 ⟨hm, p⟩
  have sm := hl i σ1 H1 p
  cases e : xs[i]? with
  | none =>
    have hi : xs.length ≤ i := List.getElem?_eq_none_iff.mp e
    have ei : i = xs.length := by omega
    refine .inl ⟨?_, hd σ1 H1 (by rw [← ei]; exact p)⟩
    rcases hJ with ⟨rfl, q⟩ | ⟨rfl, q⟩
    · exact ⟨xs, q _ sm, hi⟩
    · exact ⟨xs, q _ sm, hi⟩
  | some x =>
    have hi : i < xs.length := (List.getElem?_eq_some_iff.mp e).1
    rcases hJ with ⟨rfl, q⟩ | ⟨rfl, q⟩
    · refine .inr ⟨⟨xs, x, q _ sm, e⟩, Pv (i + 1), fun σ' H' p' => ⟨m - 1, by omega, by omega, p'⟩, ?_⟩
      rintro v H' ⟨T, x', rfl, hT, rfl, all⟩
      have ex := all xs (q _ sm)
      rw [e] at ex
      cases ex
      exact hs i x σ1 H1 T e p hT
    · refine .inr ⟨⟨xs, x, q _ sm, e⟩, Pv (i + 1), fun σ' H' p' => ⟨m - 1, by omega, by omega, p'⟩, ?_⟩
      rintro v H' ⟨T, x', rfl, hT, rfl, all⟩
      have ex := all xs (q _ sm)
      rw [e] at ex
      cases ex
      exact hs i x σ1 H1 T e p hT
end G

set_option Elab.async false
set_option maxRecDepth 100000
set_option pp.maxSteps 300
namespace G
open PySem L2 PySem.Spec PyProof.Rows LamX
/-! ### what stays where only the tables of code objects are written -/
section
variable {K : PySem.W.Frag} {H H' : Hp}
theorem ts_ext (e : ExtN H H') : TS H H' := ⟨fun _ _ h => e _ _ h (fun _ z => nomatch z), fun _ _ _ h => e _ _ h (fun _ z => nomatch z)⟩
theorem sqL_ext {a : Addr} {xs : List V} (e : ExtN H H') (h : SqL K H a xs) : SqL K H' a xs := by
  rcases h with (h | ⟨o, h⟩) | h
  · exact .inl (.inl (e _ _ h fun _ z => nomatch z))
  · exact .inl (.inr ⟨o, e _ _ h fun _ z => nomatch z⟩)
  · exact .inr h
theorem sqT_ext {a : Addr} {xs : List V} (e : ExtN H H') (h : SqT K H a xs) : SqT K H' a xs := sqT_ts (ts_ext e) h
mutual
theorem Dp.ext (e : ExtN H H') : ∀ {d : PyData} {v : V}, Dp K H v d → Dp K H' v d
  | .none, _, h => by cases h; exact .non
  | .bool _, _, h => by cases h; exact .bl _
  | .int _, _, h => by cases h; exact .int _
  | .str _, _, h => by cases h; exact .str _
  | .list ds, _, h => by
    cases h with
    | lst h1 h2 => exact .lst (sqL_ext e h1) (DpAll.ext e h2)
  | .tuple ds, _, h => by
    cases h with
    | tup h1 h2 => exact .tup (sqT_ext e h1) (DpAll.ext e h2)
  | .dict _, _, h => by cases h
theorem DpAll.ext (e : ExtN H H') : ∀ {ds : List PyData} {vs : List V}, DpAll K H vs ds → DpAll K H' vs ds
  | [], _, h => by cases h; exact .nil
  | d :: ds, _, h => by
    cases h with
    | cons h1 h2 => exact .cons (Dp.ext e h1) (DpAll.ext e h2)
end
mutual
theorem Dd.ext (e : ExtN H H') : ∀ {d : PyData} {v : V}, Dd K H v d → Dd K H' v d
  | .none, _, h => by cases h; exact .non
  | .bool _, _, h => by cases h; exact .bl _
  | .int _, _, h => by cases h; exact .int _
  | .str _, _, h => by cases h; exact .str _
  | .list ds, _, h => by cases h
  | .tuple ds, _, h => by
    cases h with
    | tup h1 h2 => exact .tup (sqT_ext e h1) (DdAll.ext e h2)
  | .dict _, _, h => by
    cases h with
    | dct h => exact .dct (e _ _ h fun _ z => nomatch z)
theorem DdAll.ext (e : ExtN H H') : ∀ {ds : List PyData} {vs : List V}, DdAll K H vs ds → DdAll K H' vs ds
  | [], _, h => by cases h; exact .nil
  | d :: ds, _, h => by
    cases h with
    | cons h1 h2 => exact .cons (Dd.ext e h1) (DdAll.ext e h2)
end
theorem Dq.ext {d : PyData} {v : V} (e : ExtN H H') (h : Dq K H v d) : Dq K H' v d := h.imp (Dp.ext e) (Dd.ext e)
theorem ext_of (s : Same H H') : ExtN H H' := fun b o h _ => s b o h
end
/-- the draws' state, whatever else has been written of tables: all but its own three objects is the caller's -/
theorem Mst.ext {G H H' : Hp} {m : Addr} {T : Int} (M : Mst G H m T) (e : ExtN H H') : ∃ G', Mst G' H' m T ∧ ExtN G G' ∧ TS H' G' ∧ Same G' H' ∧
    ∀ b o, H' b = some o → (∀ kvs, o ≠ .dK kvs) → (∀ xs, o ≠ .lst xs) → G' b = some o := by
  obtain ⟨c, l, cs, ls, t, S, ht⟩ := M
  have hm := e _ _ S.hm fun _ z => nomatch z
  have hc := e _ _ S.hc fun _ z => nomatch z
  have hl := e _ _ S.hl fun _ z => nomatch z
  refine ⟨fun b => if b = m ∨ b = c ∨ b = l then none else H' b, ⟨c, l, cs, ls, t, ⟨fun b o h => ?_, if_pos (.inl rfl), if_pos (.inr (.inr rfl)), if_pos (.inr (.inl rfl)), hm, hc, hl, S.cl, S.nc, S.nl, S.ge, S.t0⟩, ht⟩, fun b o h no => ?_, ⟨fun b xs h => ?_, fun b o xs h => ?_⟩, fun b o h => ?_, fun b o h n1 n2 => ?_⟩
  · by_cases q : b = m ∨ b = c ∨ b = l
    · have h' : (if b = m ∨ b = c ∨ b = l then none else H' b) = some o := h
      rw [if_pos q] at h'
      cases h'
    · have h' : (if b = m ∨ b = c ∨ b = l then none else H' b) = some o := h
      rw [if_neg q] at h'
      exact h'
  · have q : ¬ (b = m ∨ b = c ∨ b = l) := by
      rintro (z | z | z)
      · rw [z, S.gm] at h
        cases h
      · rw [z, S.gc] at h
        cases h
      · rw [z, S.gl] at h
        cases h
    show (if b = m ∨ b = c ∨ b = l then none else H' b) = some o
    rw [if_neg q]
    exact e _ _ (S.sm _ _ h) no
  · show (if b = m ∨ b = c ∨ b = l then none else H' b) = some _
    rw [if_neg, h]
    rintro (z | z | z) <;> rw [z] at h
    · rw [hm] at h; cases h
    · rw [hc] at h; cases h
    · rw [hl] at h; cases h
  · show (if b = m ∨ b = c ∨ b = l then none else H' b) = some _
    rw [if_neg, h]
    rintro (z | z | z) <;> rw [z] at h
    · rw [hm] at h; cases h
    · rw [hc] at h; cases h
    · rw [hl] at h; cases h
  · have h' : (if b = m ∨ b = c ∨ b = l then none else H' b) = some o := h
    by_cases q : b = m ∨ b = c ∨ b = l
    · rw [if_pos q] at h'
      cases h'
    · rw [if_neg q] at h'
      exact h'
  · show (if b = m ∨ b = c ∨ b = l then none else H' b) = some _
    rw [if_neg, h]
    rintro (z | z | z) <;> rw [z] at h
    · rw [hm] at h; cases h; exact n1 _ rfl
    · rw [hc] at h; cases h; exact n2 _ rfl
    · rw [hl] at h; cases h; exact n2 _ rfl
theorem tabs_in {T : List (Addr × Str)} {H G : Hp} (t : Tabs T H) (k : ∀ b o, H b = some o → (∀ kvs, o ≠ .dK kvs) → (∀ xs, o ≠ .lst xs) → G b = some o) : Tabs T G := fun p hp => by
  obtain ⟨ps, h1, h2, h3⟩ := t p hp
  refine ⟨ps, k _ _ h1 (fun _ z => nomatch z) (fun _ z => nomatch z), h2, fun pos cv hc => ?_⟩
  obtain ⟨c, e1, e2⟩ := h3 pos cv hc
  refine ⟨c, e1, k _ _ e2 (fun kvs z => ?_) fun xs z => ?_⟩
  · unfold CodeO at z
    cases z
  · unfold CodeO at z
    cases z
/-! ### what repr may be asked of -/
structure Rp (d : PyData) : Prop where
  sh : d.showable = true
  len : d.shown.length ≤ sizeLine
  dep : d.depth ≤ 60
end G

set_option Elab.async false
set_option maxRecDepth 100000
set_option pp.maxSteps 300
namespace G
open PySem L2 PySem.Spec PyProof.Rows LamX
/-! ### own errors with one field, as raised -/
def spEx1 (C : Addr) (f : Str) : Sp := fun vs H Q _ => ∃ (a : Addr) (y : V), vs = [.ref a, y] ∧ H a = some (exo a C none) ∧ ∀ dx, H dx = none → dx ≠ a → Q .non (upd (upd H dx (exd dx [(f, y)])) a (exo a C (some dx)))
abbrev sTi : Stmt := inClass (top 2) 0
abbrev sNi : Stmt := inClass (top 3) 0
section
variable {P : Program} {w : World} {K : PySem.W.Frag} {mg : Str → Option Value} {base : Heap} {f C : Addr} {fd : FuncData}
theorem scTi : FnScope ["self", "place"] ["self", "place"] (defScope sTi) := ⟨rfl, rfl, rfl, by decide +kernel, rfl, by decide +kernel, by decide +kernel⟩
theorem ok_ti (F : Fun K "__init__" "BadTables.__init__" sTi f fd) (T : OexC K C) (no : PySem.W.findIn K (.ref C) "place" = some none) : FnOk P w K mg base CX0 1 f fd ["self", "place"] (spEx1 C "place") := by
  refine F.ok scTi (fun vs H Q E h => ?_) (fun cdv A outer s H vs Q E hr h => ?_)
  · obtain ⟨a, y, rfl, _⟩ := h
    rfl
  · obtain ⟨a, y, rfl, ha, k⟩ := h
    refine ⟨_, pss_one (ps_ost (pv 0) (pv 1)), ?_⟩
    exact ⟨_, rfl, _, rfl, a, C, rfl, T, no, .inl ⟨ha, fun dx hd ne => k dx hd ne⟩⟩
theorem scNi : FnScope ["self", "value"] ["self", "value"] (defScope sNi) := ⟨rfl, rfl, rfl, by decide +kernel, rfl, by decide +kernel, by decide +kernel⟩
theorem ok_ni (F : Fun K "__init__" "BadNumber.__init__" sNi f fd) (T : OexC K C) (no : PySem.W.findIn K (.ref C) "value" = some none) : FnOk P w K mg base CX0 1 f fd ["self", "value"] (spEx1 C "value") := by
  refine F.ok scNi (fun vs H Q E h => ?_) (fun cdv A outer s H vs Q E hr h => ?_)
  · obtain ⟨a, y, rfl, _⟩ := h
    rfl
  · obtain ⟨a, y, rfl, ha, k⟩ := h
    refine ⟨_, pss_one (ps_ost (pv 0) (pv 1)), ?_⟩
    exact ⟨_, rfl, _, rfl, a, C, rfl, T, no, .inl ⟨ha, fun dx hd ne => k dx hd ne⟩⟩
end
structure ExT (P : Program) (w : World) (K : PySem.W.Frag) (mg : Str → Option Value) (base : Heap) (C : Addr) (x f : Str) : Prop where
  ex : ∃ (fI : Addr) (fd : FuncData), FnOk P w K mg base CX0 1 fI fd ["self", f] (spEx1 C f) ∧ PySem.W.findIn K (.ref C) "__init__" = some (some (.ref fI)) ∧ PySem.W.typeIn K (.ref fI) = some (.type "function") ∧ Binds K fd ["self", f] []
  oex : OexC K C
  at_ : mg x = some (.ref C)
/-- the error's object is let go, its dict stays -/
theorem ex_heap {H : Hp} {a dx C : Addr} {f : Str} {y : V} {o : HO} (ha : H a = none) (ne : dx ≠ a) : upd (del (upd (upd (upd H a o) dx (exd dx [(f, y)])) a (exo a C (some dx))) a) dx (.xd [(f, y)]) = upd H dx (.xd [(f, y)]) := by
  funext b
  by_cases h1 : b = dx
  · subst h1
    rw [upd_same, upd_same]
  · rw [upd_ne h1, upd_ne h1]
    by_cases h2 : b = a
    · subst h2
      rw [del_same, ha]
    · rw [del_ne h2, upd_ne h2, upd_ne h1, upd_ne h2]
theorem raise_wish {C : Addr} {f : Str} {y : V} {H : Hp} {W : XK} (k : ∀ dx, H dx = none → W (.ref C) (some dx) (upd H dx (.xd [(f, y)]))) :
    [y].length ≤ 1000 ∧ ∀ a, H a = none → spEx1 C f (.ref a :: ([y] ++ [])) (upd H a (exo a C none)) (fun v H2 => v = .non ∧ ∃ (d : Addr) (fs : List (Str × V)), H2 a = some (exo a C (some d)) ∧ H2 d = some (exd d fs) ∧ H d = none ∧ W (.ref C) (some d) (upd (del H2 a) d (.xd fs))) (fun _ _ _ => False) := by
  refine ⟨(by show 1 ≤ 1000; decide), fun a ha => ⟨a, y, rfl, upd_same, fun dx hd ne => ?_⟩⟩
  have hd0 : H dx = none := by
    rw [upd_ne ne] at hd
    exact hd
  refine ⟨rfl, dx, [(f, y)], upd_same, by rw [upd_ne ne, upd_same], hd0, ?_⟩
  rw [ex_heap ha ne]
  exact k dx hd0
theorem ps_raiseG {X : Cx} {C : Addr} {W : WX} {x f : Str} {e : Expr} {te : TE} {p pos pos2 : Pos} (B : ExT X.prog X.w X.K X.mg X.base C x f) (hc : X.calm = true) (hr : Room 2 X.A) (tk : Takes X W) (he : PE X e te) (hg : Gl X x := by rfl) (hdb : (x == ("__debug__" : Str)) = false := by decide)
    (hst : starEach [e] X.env = (false, eval e X.env) :: starEach [] X.env := by rfl) (hpl : (backTo pos (starEach [] X.env)).any (·.1) = false := by rfl) (hs2 : starEach [e] X.env = (false, eval e X.env) :: starEach [] X.env := by rfl) :
    PS X (.Raise (some (.Call (.Name x p) [e] [] pos)) none pos2) (fun _ σ H => tMkO C (spEx1 C f) [] (tCons te tNil) σ H fun cls d H' => W cls d σ H') := by
  obtain ⟨fI, fd, F1, iC, tI, hb⟩ := B.ex
  exact ps_raise (pos := pos2) hc tk (pmk_oex (p := p) (pos := pos) B.oex iC tI F1 hr hb .nil (fun _ _ _ _ _ _ _ h => h.elim) hg B.at_ (pa_cons he pa_nil hs2) hdb hst hpl)
/-! ### families as values -/
structure Fam1 (K : PySem.W.Frag) (C : Addr) : Prop where
  cls : Cls K C
  tables : NoAttr K C "tables"
  many : NoAttr K C "many"
def IsFam (K : PySem.W.Frag) (C : Addr) (H : Hp) (x dx : Addr) (n : Nat) (ts : List (List (List Int))) : Prop :=
  ∃ (fs : List (Str × V)) (tv : V), H x = some (.ins C dx fs) ∧ fs.lookup ("tables" : Str) = some tv ∧ fs.lookup ("many" : Str) = some (.int (n : Int)) ∧ fs.lookup ("with_table" : Str) = none ∧ fs.lookup ("without_table" : Str) = none ∧ fs.lookup ("changed" : Str) = none ∧ IsTabs K H tv ts
theorem TS.wrI {G : Hp} {p C dx : Addr} {fs : List (Str × V)} {o : HO} (h : G p = some (.ins C dx fs)) : TS G (upd G p o) :=
  ⟨fun b ys e => by rw [upd_ne (ne_of e h (by intro z; cases z))]; exact e, fun b q ys e => by rw [upd_ne (ne_of e h (by intro z; cases z))]; exact e⟩
def SqA (K : PySem.W.Frag) (H : Hp) (a : Addr) (xs : List V) : Prop := SqL K H a xs ∨ SqT K H a xs
def rIx2 (K : PySem.W.Frag) : R2 := fun x y H Q => rIxL K x y H Q ∨ rIxT K x y H Q
theorem ix2 {X : Cx} : IxR X (rIx2 X.K) := ix_list.or ix_tup
section
variable {K : PySem.W.Frag} {H H' : Hp}
theorem fam_same {C x dx : Addr} {n : Nat} {ts : List (List (List Int))} (s : Same H H') (h : IsFam K C H x dx n ts) : IsFam K C H' x dx n ts :=
  let ⟨fs, tv, h1, h2, h3, h4, h5, h6, h7⟩ := h
  ⟨fs, tv, s _ _ h1, h2, h3, h4, h5, h6, st_tabs _ _ _ _ (TS.of s) h7⟩
theorem fam_ext {C x dx : Addr} {n : Nat} {ts : List (List (List Int))} (e : ExtN H H') (h : IsFam K C H x dx n ts) : IsFam K C H' x dx n ts :=
  let ⟨fs, tv, h1, h2, h3, h4, h5, h6, h7⟩ := h
  ⟨fs, tv, e _ _ h1 (fun _ z => nomatch z), h2, h3, h4, h5, h6, st_tabs _ _ _ _ (ts_ext e) h7⟩
theorem sqL_same {a : Addr} {xs : List V} (s : Same H H') (h : SqL K H a xs) : SqL K H' a xs := s.seq h
theorem sqA_same {a : Addr} {xs : List V} (s : Same H H') (h : SqA K H a xs) : SqA K H' a xs := h.imp (sqL_same s) (sqT_same s)
theorem sqA_wrI {p C dx a : Addr} {fs : List (Str × V)} {o : HO} {xs : List V} (h : H p = some (.ins C dx fs)) (q : SqA K H a xs) : SqA K (upd H p o) a xs := by
  rcases q with q | q
  · refine .inl ?_
    rcases q with (q | ⟨o, q⟩) | q
    · exact .inl (.inl (by rw [upd_ne (ne_of q h (by intro z; cases z))]; exact q))
    · exact .inl (.inr ⟨o, by rw [upd_ne (ne_of q h (by intro z; cases z))]; exact q⟩)
    · exact .inr q
  · exact .inr (sqT_ts (TS.wrI h) q)
theorem any_of {t : Value} : ∀ {us : List Value} {bs : List Bool}, Paired (fun u b => PySem.W.kitOne K t u = some b) us bs → PySem.W.kitAny K t us = some (bs.any id)
  | _, _, .nil => rfl
  | _, _, .cons (a := u) (b := b) h t => by
    refine kitAny_cons h (fun e => ?_) (fun e => ?_)
    · rw [any_of t, e]
      rfl
    · rw [e]
      rfl
theorem tup_any {a : Addr} {xs : List V} {Q : VK} (h : SqA K H a xs) (q : ∀ (b : Addr) (H' : Hp), Same H H' → SqT K H' b xs → Q (.ref b) H') : rTupOf K [.ref a] H Q := by
  rcases h with h | h
  · exact ⟨a, xs, rfl, .inl ⟨h, fun l hl => q l _ (same_new hl) (SqT.of upd_same)⟩⟩
  · exact ⟨a, xs, rfl, .inr ⟨h, q a H (Same.refl _) h⟩⟩
theorem ix2_0 {a : Addr} {xs : List V} {v : V} {Q : VK} (h : SqA K H a xs) (h0 : xs[0]? = some v) (q : Q v H) : rIx2 K (.ref a) (.int 0) H Q := by
  rcases h with h | h
  · exact .inl ⟨a, xs, 0, v, rfl, rfl, h, atI_nat (j := 0) h0, q⟩
  · exact .inr ⟨a, xs, 0, v, rfl, rfl, h, atI_nat (j := 0) h0, q⟩
theorem tab_len {v : V} {t : List (List Int)} (h : IsTab K H v t) : ∃ b ys, v = .ref b ∧ SqT K H b ys ∧ ys.length = t.length :=
  let ⟨b, ys, e, q, p⟩ := h
  ⟨b, ys, e, q, pr_len p⟩
theorem dq_int {v : V} {i : Int} (h : Dq K H v (.int i)) : v = .int i := by
  rcases h with h | h <;> cases h <;> rfl
/-- the things of a list -/
theorem dq_itemsL {v : V} {ds : List PyData} (h : Dq K H v (.list ds)) : ∃ a xs, v = .ref a ∧ SqL K H a xs ∧ Paired (Dq K H) xs ds := by
  rcases h with h | h
  · cases h with
    | @lst a xs ds h1 h2 => exact ⟨a, xs, rfl, h1, pr_map (fun _ _ => .inl) (of_dpAll h2)⟩
  · cases h
theorem dq_row {v : V} {r : List Int} (h : Dq K H v (rowD r)) : IsRow K H v r := by
  obtain ⟨a, xs, rfl, ha, hp⟩ := dq_items h
  have go : ∀ {r : List Int} {xs : List V}, Paired (Dq K H) xs (r.map PyData.int) → xs = r.map V.int := by
    intro r
    induction r with
    | nil => intro xs h; cases h; rfl
    | cons x r ih =>
      intro xs h
      cases h with
      | cons h1 h2 =>
        rw [ih h2, dq_int h1]
        rfl
  rw [go hp] at ha
  exact ⟨a, rfl, ha⟩
theorem dq_tab {v : V} {t : List (List Int)} (h : Dq K H v (tabD t)) : IsTab K H v t := by
  obtain ⟨a, xs, rfl, ha, hp⟩ := dq_items h
  exact ⟨a, xs, rfl, ha, pr_imp (fun _ _ => dq_row) hp⟩
theorem dp_tabs {v : V} {ts : List (List (List Int))} (h : IsTabs K H v ts) : Dp K H v (tabsD ts) := by
  obtain ⟨a, xs, rfl, h, p⟩ := h
  exact .tup h (dpAll_of (pr_out (F := Dp K H) (F' := IsTab K H) (g := tabD) (fun _ _ => dp_tab) p))
end
/-! ### what is wrong with what is passed for tables -/
def lenD : PyData → Nat
  | .tuple ds => ds.length
  | _ => 0
def goodAt (ds : List PyData) (i : Nat) : Bool := isTabD (ds.getD i .none) && decide (lenD (ds.getD i .none) = lenD (ds.getD 0 .none))
def verdictL (ds : List PyData) : Option (Option Nat) := if 1 ≤ ds.length ∧ ds.length ≤ 3 then ((List.range ds.length).find? fun i => !goodAt ds i).map some else some none
def verdict : PyData → Option (Option Nat)
  | .list ds => verdictL ds
  | .tuple ds => verdictL ds
  | _ => some none
def itemsD : PyData → List PyData
  | .list ds => ds
  | .tuple ds => ds
  | _ => []
def placeV : Option Nat → V
  | none => .non
  | some i => .int (i : Int)
def placeD : Option Nat → PyData
  | none => .none
  | some i => .int (i : Int)
theorem find_first {p : Nat → Bool} {n i : Nat} (hi : i < n) (h : p i = true) (hj : ∀ j, j < i → p j = false) : (List.range n).find? p = some i := by
  rw [List.find?_eq_some_iff_getElem]
  refine ⟨h, i, by simpa using hi, by simp, fun j hj' => ?_⟩
  simp [hj j hj']
theorem find_none {p : Nat → Bool} {n : Nat} (h : ∀ j, j < n → p j = false) : (List.range n).find? p = none := by
  rw [List.find?_eq_none]
  intro j hj
  rw [h j (List.mem_range.mp hj)]
  exact Bool.false_ne_true
theorem row_shape {d : PyData} {n : Nat} (h : isRowD d n = true) : ∃ r, d = rowD r ∧ RowOk n r := by
  cases d with
  | tuple ds =>
    unfold isRowD at h
    dsimp only at h
    rw [Bool.and_eq_true, decide_eq_true_eq, List.all_eq_true] at h
    have go : ∀ {ds : List PyData}, (∀ b ∈ ds.map (below · 10), id b = true) → ∃ r : List Int, ds = r.map PyData.int ∧ ∀ x ∈ r, 0 ≤ x ∧ x ≤ 9 := by
      intro ds
      induction ds with
      | nil => intro _; exact ⟨[], rfl, fun _ z => nomatch z⟩
      | cons d ds ih =>
        intro hh
        obtain ⟨r, e, l⟩ := ih fun b hb => hh b (List.mem_cons_of_mem _ hb)
        have h1 : below d 10 = true := hh _ (List.mem_cons_self ..)
        cases d with
        | int i =>
          have h2 : (decide (0 ≤ i) && decide (i < 10)) = true := h1
          rw [Bool.and_eq_true, decide_eq_true_eq, decide_eq_true_eq] at h2
          refine ⟨i :: r, by rw [e]; rfl, fun x hx => ?_⟩
          rcases List.mem_cons.mp hx with z | z
          · subst z
            omega
          · exact l x z
        | none => cases h1
        | bool b => cases h1
        | str x => cases h1
        | list x => cases h1
        | tuple x => cases h1
        | dict x => cases h1
    obtain ⟨r, e, l⟩ := go h.2
    subst e
    exact ⟨r, rfl, by have := h.1; rw [List.length_map] at this; exact this, l⟩
  | none => cases h
  | bool b => cases h
  | str x => cases h
  | list x => cases h
  | int x => cases h
  | dict x => cases h
theorem tab_shape {d : PyData} (h : isTabD d = true) : ∃ t, d = tabD t ∧ TabOk t.length t ∧ 1 ≤ t.length ∧ t.length ≤ 4 := by
  cases d with
  | tuple ds =>
    unfold isTabD at h
    dsimp only at h
    rw [Bool.and_eq_true, Bool.and_eq_true, decide_eq_true_eq, decide_eq_true_eq, List.all_eq_true] at h
    have go : ∀ {n : Nat} {ds : List PyData}, (∀ b ∈ ds.map (isRowD · n), id b = true) → ∃ t : List (List Int), ds = t.map rowD ∧ ∀ r ∈ t, RowOk n r := by
      intro n ds
      induction ds with
      | nil => intro _; exact ⟨[], rfl, fun _ z => nomatch z⟩
      | cons d ds ih =>
        intro hh
        obtain ⟨t, e, l⟩ := ih fun b hb => hh b (List.mem_cons_of_mem _ hb)
        obtain ⟨r, e2, l2⟩ := row_shape (hh _ (List.mem_cons_self ..))
        refine ⟨r :: t, by rw [e, e2]; rfl, fun x hx => ?_⟩
        rcases List.mem_cons.mp hx with z | z
        · subst z
          exact l2
        · exact l x z
    obtain ⟨t, e, l⟩ := go h.2
    subst e
    rw [List.length_map] at h l
    exact ⟨t, rfl, ⟨rfl, l⟩, h.1.1, h.1.2⟩
  | none => cases h
  | bool b => cases h
  | str x => cases h
  | list x => cases h
  | int x => cases h
  | dict x => cases h
/-- nothing is wrong: they are tables -/
theorem all_good {ds : List PyData} (h1 : 1 ≤ ds.length) (h3 : ds.length ≤ 3) (h : ∀ j, j < ds.length → goodAt ds j = true) : ∃ n ts, ds = ts.map tabD ∧ FamOk n ts := by
  have go : ∀ {n : Nat} {es : List PyData}, (∀ d ∈ es, isTabD d = true ∧ lenD d = n) → ∃ ts : List (List (List Int)), es = ts.map tabD ∧ ∀ t ∈ ts, TabOk n t ∧ 1 ≤ t.length ∧ t.length ≤ 4 := by
    intro n es
    induction es with
    | nil => intro _; exact ⟨[], rfl, fun _ z => nomatch z⟩
    | cons d es ih =>
      intro hh
      obtain ⟨ts, e, l⟩ := ih fun b hb => hh b (List.mem_cons_of_mem _ hb)
      obtain ⟨a, b⟩ := hh d (List.mem_cons_self ..)
      obtain ⟨t, e2, l2, g1, g4⟩ := tab_shape a
      subst e2
      have el : t.length = n := by
        have z : (t.map rowD).length = n := b
        rw [List.length_map] at z
        exact z
      subst el
      refine ⟨t :: ts, by rw [e]; rfl, fun x hx => ?_⟩
      rcases List.mem_cons.mp hx with z | z
      · subst z
        exact ⟨l2, g1, g4⟩
      · exact l x z
  obtain ⟨ts, e, l⟩ := go (n := lenD (ds.getD 0 .none)) (es := ds) fun d hd => by
    obtain ⟨j, hj, ej⟩ := List.getElem_of_mem hd
    have g := h j hj
    unfold goodAt at g
    rw [Bool.and_eq_true, decide_eq_true_eq] at g
    have e2 : ds.getD j .none = d := by
      rw [List.getD_eq_getElem?_getD, List.getElem?_eq_getElem hj, ej]
      rfl
    rw [e2] at g
    exact g
  refine ⟨lenD (ds.getD 0 .none), ts, e, ?_⟩
  have lt : ds.length = ts.length := by rw [e, List.length_map]
  obtain ⟨t0, ht0⟩ : ∃ t0, t0 ∈ ts := ⟨ts[0]'(by omega), List.getElem_mem _⟩
  obtain ⟨k1, k2, k3⟩ := l t0 ht0
  rw [k1.1] at k2 k3
  exact ⟨k2, k3, by omega, by omega, fun t ht => (l t ht).1⟩
theorem verdict_good {ts : List (List (List Int))} {n : Nat} (ok : FamOk n ts) : verdictL (ts.map tabD) = none := by
  have h1 := ok.l1
  have h3 := ok.l3
  unfold verdictL
  rw [if_pos (by rw [List.length_map]; exact ⟨h1, h3⟩), find_none (fun j hj => ?_)]
  · rfl
  · rw [List.length_map] at hj
    have at_ : ∀ i, i < ts.length → ∃ t, (ts.map tabD).getD i .none = tabD t ∧ TabOk n t := fun i hi => by
      refine ⟨ts[i], ?_, ok.ok _ (List.getElem_mem _)⟩
      rw [List.getD_eq_getElem?_getD, List.getElem?_map, List.getElem?_eq_getElem hi]
      rfl
    obtain ⟨t, e, o⟩ := at_ j hj
    obtain ⟨t0, e0, o0⟩ := at_ 0 (by omega)
    have len : ∀ {t : List (List Int)}, TabOk n t → lenD (tabD t) = n := fun {t} o => by
      show (t.map rowD).length = n
      rw [List.length_map]
      exact o.1
    have isT : isTabD (tabD t) = true := by
      unfold isTabD tabD
      dsimp only
      rw [List.length_map, o.1, decide_eq_true ok.n1, decide_eq_true ok.n4, Bool.true_and, Bool.true_and, List.map_map, List.all_eq_true]
      intro b hb
      obtain ⟨r, hr, rfl⟩ := List.mem_map.mp hb
      have q := o.2 r hr
      show isRowD (rowD r) n = true
      unfold isRowD rowD
      dsimp only
      rw [List.length_map, decide_eq_true q.1, Bool.true_and, List.map_map, List.all_eq_true]
      intro c hc
      obtain ⟨x, hx, rfl⟩ := List.mem_map.mp hc
      have z := q.2 x hx
      show (decide (0 ≤ x) && decide (x < 10)) = true
      rw [decide_eq_true z.1, decide_eq_true (by omega)]
      rfl
    unfold goodAt
    rw [e, e0, len o, len o0, isT, decide_eq_true rfl]
    rfl
end G

set_option Elab.async false
set_option maxRecDepth 100000
set_option pp.maxSteps 300
namespace G
open PySem L2 PySem.Spec PyProof.Rows LamX
/-! ### Family.__init__, of any data -/
def sInit : Stmt := inClass (top 13) 0
def spInit (K : PySem.W.Frag) (C CT : Addr) : Sp := fun vs H Q E => ∃ (x dx : Addr) (v : V) (d : PyData), vs = [.ref x, v] ∧ H x = some (.ins C dx []) ∧ Dq K H v d ∧
  (verdict d = none → ∀ (n : Nat) (ts : List (List (List Int))) (H' : Hp), itemsD d = ts.map tabD → FamOk n ts → (∀ b o, b ≠ x → H b = some o → H' b = some o) → IsFam K C H' x dx n ts → Q .non H') ∧
  ∀ p, verdict d = some p → ∀ (dd : Addr) (H' : Hp), Same H H' → H' dd = some (.xd [("place", placeV p)]) → E (.ref CT) (some dd) H'
theorem bt_listB : bootBuiltins "list" = some (.type "list") := by decide +kernel
theorem dq_seq {K : PySem.W.Frag} {H : Hp} {v : V} {d : PyData} (h : [isLi d, isTu d].any id = true) (hd : Dq K H v d) : ∃ a xs, v = .ref a ∧ SqA K H a xs ∧ Paired (Dq K H) xs (itemsD d) ∧ verdict d = verdictL (itemsD d) := by
  cases d with
  | list ds =>
    obtain ⟨a, xs, e, q, p⟩ := dq_itemsL hd
    exact ⟨a, xs, e, .inl q, p, rfl⟩
  | tuple ds =>
    obtain ⟨a, xs, e, q, p⟩ := dq_items hd
    exact ⟨a, xs, e, .inr q, p, rfl⟩
  | none => cases h
  | bool b => cases h
  | int b => cases h
  | str b => cases h
  | dict b => cases h
theorem no_seq {d : PyData} (h : [isLi d, isTu d].any id = false) : verdict d = some none := by
  cases d <;> first | rfl | cases h
theorem good0 {ds : List PyData} {i : Nat} {z : PyData} (hz : ds[i]? = some z) (ht : isTabD z = true) (hg : ∀ j, j < i → goodAt ds j = true) : ∃ t t0, z = tabD t ∧ ds[0]? = some (tabD t0) ∧ (goodAt ds i = true ↔ t.length = t0.length) := by
  obtain ⟨t, rfl, _⟩ := tab_shape ht
  have hi : i < ds.length := (List.getElem?_eq_some_iff.mp hz).1
  have e1 : ds.getD i .none = tabD t := by
    rw [List.getD_eq_getElem?_getD, hz]
    rfl
  have h0 : ∃ t0, ds[0]? = some (tabD t0) := by
    rcases Nat.eq_zero_or_pos i with e | e
    · subst e
      exact ⟨t, hz⟩
    · have g := hg 0 e
      unfold goodAt at g
      rw [Bool.and_eq_true] at g
      obtain ⟨t0, e0, _⟩ := tab_shape g.1
      refine ⟨t0, ?_⟩
      rw [getD_at .none (show 0 < ds.length by omega), e0]
  obtain ⟨t0, e0⟩ := h0
  have e2 : ds.getD 0 .none = tabD t0 := by
    rw [List.getD_eq_getElem?_getD, e0]
    rfl
  refine ⟨t, t0, rfl, e0, ?_⟩
  unfold goodAt
  rw [e1, e2, ht, Bool.true_and, decide_eq_true_eq]
  have l : ∀ t : List (List Int), lenD (tabD t) = t.length := fun t => by
    show (t.map rowD).length = _
    rw [List.length_map]
  rw [l, l]
section
variable {P : Program} {w : World} {K : PySem.W.Frag} {mg : Str → Option Value} {base : Heap} {f fB C CT : Addr} {fd fdB : FuncData}
theorem scIn : FnScope ["self", "tables", "number", "table"] ["self", "tables"] (defScope sInit) := ⟨rfl, rfl, rfl, by decide +kernel, rfl, by decide +kernel, by decide +kernel⟩
theorem ok_init (F : Fun K "__init__" "Family.__init__" sInit f fd) (T : TxU mg) {t3 : Tok} (m3 : mg "MOST_TABLES" = some (.int 3 t3)) (W : Fam1 K C) (BT : ExT P w K mg base CT "BadTables" "place") (R : TxW K mg "is_table" fB) (GB : FnOk P w K mg base CX0 4 fB fdB ["thing"] (spIsTab K)) (bB : Binds K fdB ["thing"] []) :
    FnOk P w K mg base (L2.CX P w) 5 f fd ["self", "tables"] (spInit K C CT) := by
  refine F.okX scIn (fun vs H Q E h => ?_) (fun cdv A outer s H vs Q E hr h => ?_)
  · obtain ⟨x, dx, v, d, rfl, _⟩ := h
    rfl
  · obtain ⟨x, dx, v, d, rfl, hx, hd, k1, k2⟩ := h
    refine ⟨_, pss_cons (ps_if (pw_or (pt_not (pt_val (pe_callB call_isiT (by rfl) T.isi bt_isi (pa_cons (pv 1) (pa_cons (pe_tup (pa_cons (pe_bltn (v := .ty "list") (by rfl) T.list bt_listB rfl) (pa_cons (pe_bltn (v := .ty "tuple") (by rfl) T.tup bt_tup rfl) pa_nil))) pa_nil)))))
        (pw_or1 (pt_not (pt_chain op_le op_le pe_int (pe_callB call_len_seq (by rfl) T.len PySem.boot_len (pa_cons (pv 1) pa_nil)) (pe_glob (v := .int 3) (by rfl) m3 ⟨_, rfl⟩))))).pt (pss_one (ps_raiseG BT rfl (hr.mono (by decide)) (takes_of rfl rfl rfl rfl) pe_non)) pss_nil)
      (pss_cons (ps_for (passes_of rfl) rfl (pi_enumA (by rfl) T.enum (pa_cons (pv 1) pa_nil)) (pg_tup rfl (pgs_cons (pg_name (i := 2) scIn.nd rfl (Or.inl rfl)) (pgs_cons (pg_name (i := 3) scIn.nd rfl (Or.inl rfl)) pgs_nil)))
        (pss_one (ps_if (pw_or (pt_not (pt_val (pe_call GB hr (by rfl) R.at_ R.kp bB .nil pass0 (pa_cons (pv 3) pa_nil))))
          (pw_or1 (pt_cmpR op_ne (pe_callB call_len_seq (by rfl) T.len PySem.boot_len (pa_cons (pv 3) pa_nil)) (pe_callB call_len_seq (by rfl) T.len PySem.boot_len (pa_cons (pe_ix (r := rIx2 K) ix2 (pv 1) pe_int (fun _ _ => rfl)) pa_nil)) (nomark _)))).pt (pss_one (ps_raiseG BT rfl (hr.mono (by decide)) (takes_of rfl rfl rfl rfl) (pv 2))) pss_nil)))
      (PSs.nox (pss_cons (ps_fld (pv 0) (pe_callTy (r := rTupOf K) call_tuple_of (by rfl) T.tup bt_tup (pa_cons (pv 1) pa_nil)) (by rfl))
      (pss_one (ps_fld (pv 0) (pe_callB call_len_seq (by rfl) T.len PySem.boot_len (pa_cons (pe_ix (r := rIx2 K) ix2 (pv 1) pe_int (fun _ _ => rfl)) pa_nil)) (by rfl)))))), ?_⟩
    refine ⟨_, rfl, (by show 2 ≤ sizeLine; decide), fun p1 h1 => ?_⟩
    have s1 := same_new (o := .tup [.ty "list", .ty "tuple"]) h1
    refine ⟨v, p1, [.ty "list", .ty "tuple"], _, [.type "list", .type "tuple"], _, rfl, upd_same, .cons (.ty _) (.cons (.ty _) .nil), ty_dq (hd.same s1), any_of (.cons (kLi d) (.cons (kTu d) .nil)), ?_⟩
    refine ⟨_, rfl, ?_⟩
    have bad : verdict d = some none → ∀ H1, Same H H1 → ∀ dd, H1 dd = none → E (.ref CT) (some dd) (upd H1 dd (.xd [("place", .non)])) := fun hv H1 s dd hdd => k2 none hv dd _ (s.trans (same_new hdd)) upd_same
    cases hq : [isLi d, isTu d].any id with
    | false => exact iteT (iteT (raise_wish (W := E) fun dd hdd => bad (no_seq hq) _ s1 dd hdd))
    | true =>
      obtain ⟨a, xs, rfl, hA, hp, ev⟩ := dq_seq hq hd
      generalize hds : itemsD d = ds at hp ev k1
      have lx : xs.length = ds.length := pr_len hp
      refine iteF ?_
      refine ⟨_, rfl, a, xs, rfl, sqA_same s1 hA, _, _, rfl, rfl, _, rfl, ?_⟩
      rw [lx]
      have out : ¬ (1 ≤ ds.length ∧ ds.length ≤ 3) → verdict d = some none := fun h => by
        rw [ev]
        unfold verdictL
        rw [if_neg h]
      by_cases g1 : 1 ≤ ds.length
      · rw [show decide ((1 : Int) ≤ (ds.length : Int)) = true from decide_eq_true (by omega)]
        refine iteT ⟨_, _, rfl, rfl, ?_⟩
        refine ⟨_, rfl, ?_⟩
        by_cases g3 : ds.length ≤ 3
        · rw [show decide ((ds.length : Int) ≤ 3) = true from decide_eq_true (by omega)]
          refine iteF ?_
          have ev2 : verdict d = ((List.range ds.length).find? fun i => !goodAt ds i).map some := by
            rw [ev]
            unfold verdictL
            rw [if_pos ⟨g1, g3⟩]
          let H1 : Hp := upd H p1 (.tup [.ty "list", .ty "tuple"])
          rcases sqA_same s1 hA with q | q
          all_goals
            first
              | refine ⟨_, rfl, a, xs, rfl, .inl ⟨q, for_enumA (.inl ⟨rfl, fun _ s => sqL_same s q⟩) (fun i σ' H' => (∃ o2 o3 : Option V, σ' = [some (.ref x), some (.ref a), o2, o3]) ∧ Same H1 H' ∧ ∀ j, j < i → goodAt ds j = true) ⟨⟨none, none, rfl⟩, Same.refl _, fun j hj => absurd hj (Nat.not_lt_zero j)⟩ (fun _ _ _ ⟨_, s, _⟩ => s) ?_ ?_⟩⟩
              | refine ⟨_, rfl, a, xs, rfl, .inr ⟨q, for_enumA (.inr ⟨rfl, fun _ s => sqT_same s q⟩) (fun i σ' H' => (∃ o2 o3 : Option V, σ' = [some (.ref x), some (.ref a), o2, o3]) ∧ Same H1 H' ∧ ∀ j, j < i → goodAt ds j = true) ⟨⟨none, none, rfl⟩, Same.refl _, fun j hj => absurd hj (Nat.not_lt_zero j)⟩ (fun _ _ _ ⟨_, s, _⟩ => s) ?_ ?_⟩⟩
            · rintro i y σ' H' Tp hy ⟨⟨o2, o3, rfl⟩, s, hg⟩ hT
              obtain ⟨z, hz, hfz⟩ := pr_get hp hy
              have hi : i < ds.length := (List.getElem?_eq_some_iff.mp hz).1
              have sT := (s1.trans s).trans (same_new (o := .tup [.int (i : Nat), y]) hT)
              refine ⟨Tp, _, rfl, SqT.of upd_same, rfl, _, _, rfl, _, _, rfl, rfl, ?_⟩
              refine ⟨_, rfl, y, z, rfl, hfz.same sT, fun H2 s2 => ?_⟩
              refine ⟨_, rfl, ?_⟩
              have sU := sT.trans s2
              have worse : goodAt ds i = false → ∀ dd, H2 dd = none → E (.ref CT) (some dd) (upd H2 dd (.xd [("place", .int (i : Nat))])) := fun hb dd hdd => by
                refine k2 (some i) ?_ dd _ (sU.trans (same_new hdd)) upd_same
                rw [ev2, find_first hi (by rw [hb]; rfl) (fun j hj => by rw [hg j hj]; rfl)]
                rfl
              have zz : ds.getD i .none = z := by
                rw [List.getD_eq_getElem?_getD, hz]
                rfl
              cases ht : isTabD z with
              | false =>
                refine iteT (iteT ⟨_, rfl, raise_wish (W := E) (worse ?_)⟩)
                unfold goodAt
                rw [zz, ht]
                rfl
              | true =>
                refine iteF ?_
                obtain ⟨t, t0, rfl, e0, iff⟩ := good0 hz ht hg
                obtain ⟨v0, hv0, hf0⟩ := pr_at hp e0
                obtain ⟨b, ys, rfl, hb, lb⟩ := tab_len (dq_tab (hfz.same sU))
                obtain ⟨b0, ys0, rfl, hb0, lb0⟩ := tab_len (dq_tab (hf0.same sU))
                refine ⟨_, rfl, b, ys, rfl, .inr hb, _, rfl, ?_⟩
                dsimp only [tC]
                refine ix2_0 (sqA_same sU hA) hv0 ?_
                refine ⟨b0, ys0, rfl, .inr hb0, rfl, _, rfl, ?_⟩
                rw [dec_ne, lb, lb0]
                by_cases hl : t.length = t0.length
                · rw [decide_eq_true hl]
                  refine iteF ⟨⟨_, _, rfl⟩, (s.trans (same_new hT)).trans s2, fun j hj => ?_⟩
                  rcases Nat.lt_succ_iff_lt_or_eq.mp hj with z | z
                  · exact hg j z
                  · rw [z]
                    exact iff.mpr hl
                · rw [decide_eq_false hl]
                  refine iteT ⟨_, rfl, raise_wish (W := E) (worse ?_)⟩
                  cases hb' : goodAt ds i with
                  | true => exact absurd (iff.mp hb') hl
                  | false => rfl
            · rintro σ' H' ⟨⟨o2, o3, rfl⟩, s, hg⟩
              rw [lx] at hg
              have hv : verdict d = none := by
                rw [ev2, find_none fun j hj => by rw [hg j hj]; rfl]
                rfl
              obtain ⟨n, ts, ed, ok⟩ := all_good g1 g3 hg
              have sT := s1.trans s
              have hp' : Paired (IsTab K H) xs ts := by
                rw [ed] at hp
                exact pr_imp (fun _ _ => dq_tab) hp
              have l1 := ok.l1
              obtain ⟨t0, ht0⟩ : ∃ t0, ts[0]? = some t0 := ⟨ts[0]'(by omega), List.getElem?_eq_getElem _⟩
              obtain ⟨v0, hv0, hf0⟩ := pr_at hp' ht0
              have ot0 := ok.ok t0 (List.mem_of_getElem? ht0)
              obtain ⟨b0, ys0, rfl, hb0, ly0⟩ := tab_len hf0
              refine ⟨_, rfl, ?_⟩
              dsimp only [tNil]
              refine tup_any (sqA_same sT hA) fun b H2 s2 hb => ?_
              have sU := sT.trans s2
              have hx2 := sU _ _ hx
              refine ⟨_, rfl, x, C, dx, [], rfl, hx2, W.cls, W.tables, by decide, ?_⟩
              refine ⟨_, rfl, ?_⟩
              dsimp only [tC]
              refine ix2_0 (sqA_wrI hx2 (sqA_same sU hA)) hv0 ?_
              refine ⟨b0, ys0, rfl, .inr (sqT_ts (TS.wrI hx2) (sqT_same sU hb0)), _, rfl, x, C, dx, _, rfl, upd_same, W.cls, W.many, (by show 1 < 1000; decide), ?_⟩
              rw [ly0, ot0.1]
              have t2 := (TS.wrI (o := .ins C dx (putF "tables" (.ref b) [])) hx2).trans (TS.wrI (o := .ins C dx (putF "many" (.int (n : Int)) (putF "tables" (.ref b) []))) (upd_same))
              have no : ∀ g : Str, g ≠ "tables" → g ≠ "many" → (putF "many" (.int (n : Int)) (putF "tables" (.ref b) [])).lookup g = none := fun g a1 a2 => by
                rw [lookup_putF, if_neg a2, lookup_putF, if_neg a1]
                rfl
              refine k1 hv n ts _ ed ok (fun c o ne e => ?_) ⟨_, .ref b, upd_same, ?_, ?_, no _ (by decide +kernel) (by decide +kernel), no _ (by decide +kernel) (by decide +kernel), no _ (by decide +kernel) (by decide +kernel), b, xs, rfl, sqT_ts t2 hb, pr_ts st_tab t2 (pr_ts st_tab (TS.of sU) hp')⟩
              · rw [upd_ne ne, upd_ne ne]
                exact sU _ _ e
              · rw [lookup_putF, if_neg (by decide +kernel), lookup_putF, if_pos rfl]
              · rw [lookup_putF, if_pos rfl]
        · rw [show decide ((ds.length : Int) ≤ 3) = false from decide_eq_false (by omega)]
          exact iteT (raise_wish (W := E) fun dd hdd => bad (out fun h => g3 h.2) _ s1 dd hdd)
      · rw [show decide ((1 : Int) ≤ (ds.length : Int)) = false from decide_eq_false (by omega)]
        exact iteF ⟨_, rfl, iteT (raise_wish (W := E) fun dd hdd => bad (out fun h => g1 h.1) _ s1 dd hdd)⟩
end
end G

set_option Elab.async false
set_option maxRecDepth 100000
set_option pp.maxSteps 300
namespace G
open PySem L2 PySem.Spec PyProof.Rows LamX
/-! ### len(x), x an instance whose class has a __len__ of its own -/
def rLenOwn (C : Addr) (sp : Sp) (E : XK) : List V → Hp → VK → Prop := fun xs H Q => ∃ (a dx : Addr) (fs : List (Str × V)), xs = [V.ref a] ∧ H a = some (.ins C dx fs) ∧ sp [.ref a] H (fun z H' => ∃ i : Int, z = .int i ∧ 0 ≤ i ∧ i < 2 ^ 63 ∧ Q z H') E
section
variable {X : Cx} {CX : CXT} {n : Nat} {C g : Addr} {sp : Sp} {E : XK}
theorem call_lenOwn (hs : PySem.W.findIn X.K (.ref C) "__len__" = some (some (.ref g))) (hf : PySem.W.isFn X.K (.ref g) = true) (F : FnR X.prog X.w X.K X.mg X.base CX n g sp) (hr : Room (n + 1) X.A) (hx : Passes CX X E) :
    CallR X (.builtin "len") (rLenOwn C sp E) := by
  intro pins s σ H xs us Q I r h
  obtain ⟨a, dx, fs, rfl, hi, q⟩ := h
  obtain ⟨u, rfl, ru⟩ := r.one
  cases (show u = Value.ref a from ru)
  obtain ⟨mA, O, _⟩ := ins_get I.hok hi
  obtain ⟨od, J, _⟩ := O.look
  have body := SlX.run_at (A := X.A.in1) (us := [.ref a]) (ws := [.ref a]) F hr.in1 I.env0.in1 hx I (.cons rfl .nil) q
  refine Calls.call_function_entry PySem.kind_len PySem.plain_len PySem.entry_len (PySem.args_len1 _) (?_ : wpAny _ _ (Builtin.«len» _) _ _ _)
  unfold Builtin.«len»
  refine wpAny_bind (m := oneArg "len" _) (wpAny_pure (wpAny_bind (m := callSpecial? (.ref a) (Str.ofString "__len__")) ?_))
  refine PySem.W.special_fn I.kIn J hs (beq_iff_eq.mp hf) (wpAny_mono (wpAny_call body) (fun r s' z => ?_) fun _ _ y => y)
  obtain ⟨z', H', I', rz, i, ei, i0, i1, qz⟩ := z
  subst ei
  obtain ⟨t, et⟩ := (show ∃ t, r = Value.int i t from rz)
  cases et
  refine wpAny_bind (wpAny_holding (wpAny_pure (wpAny_bind (wpAny_letGo ?_))))
  refine (?_ : wpAny _ _ (if i < 0 then _ else _) _ _ _)
  rw [if_neg (Int.not_lt.mpr i0)]
  refine (?_ : wpAny _ _ (if i ≥ 2 ^ 63 then _ else _) _ _ _)
  rw [if_neg (Int.not_le.mpr i1)]
  exact wpAny_bind (wpAny_mkInt (wpAny_pure ⟨_, rfl, .int i, H', I'.tok _, ⟨_, rfl⟩, qz⟩))
end
/-! ### Family.__len__ -/
def sLen : Stmt := inClass (top 13) 1
def spLen (K : PySem.W.Frag) (C : Addr) : Sp := fun vs H Q _ => ∃ (x dx : Addr) (n : Nat) (ts : List (List (List Int))), vs = [.ref x] ∧ IsFam K C H x dx n ts ∧ Q (.int (ts.length : Int)) H
section
variable {P : Program} {w : World} {K : PySem.W.Frag} {mg : Str → Option Value} {base : Heap} {f fB gL C : Addr} {fd fdB fdL : FuncData}
theorem scLe : FnScope ["self"] ["self"] (defScope sLen) := ⟨rfl, rfl, rfl, by decide +kernel, rfl, by decide +kernel, by decide +kernel⟩
theorem ok_len (F : Fun K "__len__" "Family.__len__" sLen f fd) (T : TxU mg) (W : Fam1 K C) : FnOk P w K mg base CX0 1 f fd ["self"] (spLen K C) := by
  refine F.ok scLe (fun vs H Q E h => ?_) (fun cdv A outer s H vs Q E hr h => ?_)
  · obtain ⟨x, dx, n, ts, rfl, _⟩ := h
    rfl
  · obtain ⟨x, dx, n, ts, rfl, ⟨fs, tv, hx, l1, l2, _, _, _, a, xs, rfl, ha, hp⟩, k⟩ := h
    refine ⟨_, pss_one (ps_ret (pe_callB call_len_seq (by rfl) T.len PySem.boot_len (pa_cons (pe_fld (pv 0) (by rfl)) pa_nil))), ?_⟩
    refine ⟨_, rfl, x, C, dx, fs, _, rfl, hx, W.cls, W.tables, l1, ?_⟩
    refine ⟨a, xs, rfl, .inr ha, ?_⟩
    rw [pr_len hp]
    exact k
/-- what is known of the class's own len -/
structure LenF (P : Program) (w : World) (K : PySem.W.Frag) (mg : Str → Option Value) (base : Heap) (C g : Addr) : Prop where
  at_ : PySem.W.findIn K (.ref C) "__len__" = some (some (.ref g))
  fn : PySem.W.isFn K (.ref g) = true
  go : FnR P w K mg base CX0 1 g (spLen K C)
theorem lenF_of (G : FnOk P w K mg base CX0 1 gL fdL ["self"] (spLen K C)) (b : Binds K fdL ["self"] []) (h1 : PySem.W.findIn K (.ref C) "__len__" = some (some (.ref gL))) (h2 : PySem.W.isFn K (.ref gL) = true) : LenF P w K mg base C gL :=
  ⟨h1, h2, (G.raw b .nil).imp fun vs H Q E h => by rw [List.append_nil]; exact h⟩
def rLenFam (K : PySem.W.Frag) (C : Addr) : List V → Hp → VK → Prop := rLenOwn C (spLen K C) E0
theorem len_fam {H : Hp} {x dx : Addr} {n : Nat} {ts : List (List (List Int))} {Q : VK} (h : IsFam K C H x dx n ts) (hz : ts.length ≤ 3) (q : Q (.int (ts.length : Int)) H) : rLenFam K C [.ref x] H Q := by
  have h' := h
  obtain ⟨fs, tv, hx, _⟩ := h'
  exact ⟨x, dx, fs, rfl, hx, x, dx, n, ts, rfl, h, _, rfl, by omega, by omega, q⟩
end
/-! ### tables alike -/
def eqT (ts us : List (List (List Int))) : Bool := PyData.eqv (tabsD ts) (tabsD us)
theorem lay_rows : ∀ t : List (List Int), PyData.canLayAll0 (t.map rowD) = true
  | [] => by simp [PyData.canLayAll0]
  | r :: t => by simp [PyData.canLayAll0, PyData.canLay0, rowD, lay_ints r, lay_rows t]
theorem lay_tabs : ∀ ts : List (List (List Int)), PyData.canLayAll0 (ts.map tabD) = true
  | [] => by simp [PyData.canLayAll0]
  | t :: ts => by simp [PyData.canLayAll0, PyData.canLay0, tabD, lay_rows t, lay_tabs ts]
theorem depth_rows : ∀ t : List (List Int), PyData.depthAll (t.map rowD) ≤ 2
  | [] => by simp [PyData.depthAll]
  | r :: t => by
    have h1 := depth_ints r
    have h2 := depth_rows t
    simp only [List.map_cons, PyData.depthAll, PyData.depth, rowD]
    omega
theorem depth_tabs : ∀ ts : List (List (List Int)), PyData.depthAll (ts.map tabD) ≤ 3
  | [] => by simp [PyData.depthAll]
  | t :: ts => by
    have h1 := depth_rows t
    have h2 := depth_tabs ts
    simp only [List.map_cons, PyData.depthAll, PyData.depth, tabD]
    omega
theorem shaped_tabs (ts : List (List (List Int))) : SeqAt.shaped (tabsD ts) = true := by
  have h := depth_tabs ts
  unfold SeqAt.shaped tabsD
  rw [Bool.and_eq_true, decide_eq_true_eq]
  refine ⟨by simp only [PyData.canLay0]; exact lay_tabs ts, ?_⟩
  simp only [PyData.depth]
  omega
/-! ### Family.__eq__ -/
def sEq : Stmt := inClass (top 13) 2
/-- what isinstance asks of the class, and of the classes of data beside it -/
structure IsiF (K : PySem.W.Frag) (mg : Str → Option Value) (C : Addr) : Prop where
  at_ : mg "Family" = some (.ref C)
  si : SlX.SIsi K C
  no : ∀ d : PyData, PySem.W.kitOne K (.type (tyName d)) (.ref C) = some false
def spEqF (K : PySem.W.Frag) (C : Addr) : Sp := fun vs H Q _ => ∃ (x dx : Addr) (n : Nat) (ts : List (List (List Int))) (y : V), vs = [.ref x, y] ∧ IsFam K C H x dx n ts ∧
  ((∃ d, Dq K H y d ∧ Q (.bl false) H) ∨ ∃ (b dy : Addr) (m : Nat) (us : List (List (List Int))), y = .ref b ∧ IsFam K C H b dy m us ∧ Q (.bl (eqT ts us)) H)
section
variable {P : Program} {w : World} {K : PySem.W.Frag} {mg : Str → Option Value} {base : Heap} {f C : Addr} {fd : FuncData}
theorem scEq : FnScope ["self", "other"] ["self", "other"] (defScope sEq) := ⟨rfl, rfl, rfl, by decide +kernel, rfl, by decide +kernel, by decide +kernel⟩
theorem kit_self : PySem.W.kitOne K (.ref C) (.ref C) = some true := by
  unfold PySem.W.kitOne
  rw [if_pos (beq_self_eq_true _)]
theorem ok_eq (F : Fun K "__eq__" "Family.__eq__" sEq f fd) (T : TxU mg) (W : Fam1 K C) (S : IsiF K mg C) : FnOk P w K mg base CX0 1 f fd ["self", "other"] (spEqF K C) := by
  refine F.ok scEq (fun vs H Q E h => ?_) (fun cdv A outer s H vs Q E hr h => ?_)
  · obtain ⟨x, dx, n, ts, y, rfl, _⟩ := h
    rfl
  · obtain ⟨x, dx, n, ts, y, rfl, hf, hy⟩ := h
    refine ⟨_, pss_one (ps_ret (pe_and (pe_callB call_isi (by rfl) T.isi bt_isi (pa_cons (pv 1) (pa_cons (pe_glob (v := .ref C) (by rfl) S.at_ rfl) pa_nil)))
      (pe_one (pe_cmpR (op_eqD (hu64 hr)) (pe_fld (pv 0) (by rfl)) (pe_fld (pv 1) (by rfl)) (nomark _))))), ?_⟩
    refine ⟨_, rfl, ?_⟩
    rcases hy with ⟨d, hd, k⟩ | ⟨b, dy, m, us, rfl, hg, k⟩
    · exact ⟨_, _, _, _, _, rfl, .own _, ty_dq hd, S.no d, _, rfl, iteF k⟩
    · obtain ⟨fs, tv, hx, l1, _, _, _, _, ht⟩ := hf
      obtain ⟨gs, uv, hb, m1, _, _, _, _, hu⟩ := hg
      refine ⟨_, _, _, _, _, rfl, .own _, .base (.ins hb W.cls S.si.ca S.si.cn S.si.ct S.si.cm), kit_self, _, rfl, iteT ?_⟩
      exact ⟨_, rfl, x, C, dx, fs, tv, rfl, hx, W.cls, W.tables, l1, _, rfl, b, C, dy, gs, uv, rfl, hb, W.cls, W.tables, m1, tabsD ts, tabsD us, dp_tabs ht, dp_tabs hu, shaped_tabs ts, shaped_tabs us, k⟩
end
/-! ### ==, != of families -/
structure EqF (P : Program) (w : World) (K : PySem.W.Frag) (mg : Str → Option Value) (base : Heap) (C g : Addr) : Prop where
  at_ : PySem.W.findIn K (.ref C) "__eq__" = some (some (.ref g))
  fn : PySem.W.isFn K (.ref g) = true
  go : FnR P w K mg base CX0 1 g (spEqF K C)
  nf : PySem.W.notFirst K C (.type "tuple") = true
  ns : ∃ (nm q : Str) (N : Addr) (bs : List Value) (hd : Bool) (sn : List Str) (sub : List Value) (ab : Bool) (col : Option Bool) (dd : Option Addr) (k0 k1 k2 k3 k5 : Option Value) (newId : String),
    K.lookup C = some (excClassObj nm q C N bs [.type "object"] hd sn sub ab col dd k0 k1 k2 k3 k5 newId) ∧ PySem.W.nsOkIn K N = true ∧ PySem.W.nsIn K N "__eq__" = some (some (.ref g)) ∧ PySem.W.nsIn K N "__ne__" = some none
def rEqF (K : PySem.W.Frag) (C : Addr) : R2 := fun x y H Q => ∃ (a dx : Addr) (n : Nat) (ts : List (List (List Int))), x = .ref a ∧ IsFam K C H a dx n ts ∧
  ((∃ (b : Addr) (ys : List V) (ds : List PyData), y = .ref b ∧ SqT K H b ys ∧ Dq K H y (.tuple ds) ∧ Q (.bl false) H) ∨ ∃ (b dy : Addr) (m : Nat) (us : List (List (List Int))), y = .ref b ∧ IsFam K C H b dy m us ∧ Q (.bl (eqT ts us)) H)
def rNeF (K : PySem.W.Frag) (C : Addr) : R2 := fun x y H Q => ∃ (a dx : Addr) (n : Nat) (ts : List (List (List Int))) (b dy : Addr) (m : Nat) (us : List (List (List Int))), x = .ref a ∧ IsFam K C H a dx n ts ∧ y = .ref b ∧ IsFam K C H b dy m us ∧ Q (.bl (!eqT ts us)) H
section
variable {X : Cx} {C g : Addr}
theorem op_eqF (EF : EqF X.prog X.w X.K X.mg X.base C g) (hr : Room 1 X.A) : OpR X (compareOp .Eq) (rEqF X.K C) := by
  intro pins s σ H x y v u Q I rx ry h
  obtain ⟨a, dx, n, ts, rfl, hf, hy⟩ := h
  obtain rfl : v = Value.ref a := rx
  have hf' := hf
  obtain ⟨fs, tv, hx, _⟩ := hf'
  obtain ⟨mA, O, _⟩ := ins_get I.hok hx
  obtain ⟨od, J, _⟩ := O.look
  obtain ⟨m, hF⟩ := I.fr
  have go : ∀ (b : Addr) (Q0 : VK), spEqF X.K C [.ref a, .ref b] H Q0 E0 → wpAny (model X.prog X.w) X.A (call (.ref g) [.ref a, .ref b]) (EP X pins σ Q0) X.xe s := fun b Q0 q =>
    wpAny_call (run_fnR (us := [.ref a, .ref b]) (vs := [.ref a, .ref b]) EF.go hr pass0 I (.cons rfl (.cons rfl .nil)) q)
  have back : ∀ (v : Value) (s' : Shared), EP X pins σ (fun z H' => Q z H') v s' → PySem.W.CmpBack (EP X pins σ Q) v s' := fun v s' z => by
    obtain ⟨z', H', I', rz, qz⟩ := z
    exact SlX.cmpback rz ⟨z', H', I', rz, qz⟩
  rcases hy with ⟨b, ys, ds, rfl, hb, hd, k⟩ | ⟨b, dy, m, us, rfl, hg, k⟩
  · obtain rfl : u = Value.ref b := ry
    obtain ⟨its, rv, ht, _⟩ := I.tuple hb
    obtain ⟨⟨oc, od2, dt, sl⟩, ho, hc, _⟩ := id ht
    simp only at hc
    subst hc
    refine PySem.W.cmp_K (op := .Eq) (tb := .type "tuple") hr.units0 hF I.ok.mod.kin J ((PySem.W.Looks.ld ho).andThen .now) EF.nf EF.at_ EF.fn ?_
    exact wpAny_mono (go b _ ⟨a, dx, n, ts, _, rfl, hf, .inl ⟨_, hd, k⟩⟩) back fun _ _ y => y
  · obtain rfl : u = Value.ref b := ry
    have hg' := hg
    obtain ⟨gs, uv, hy, _⟩ := hg'
    obtain ⟨mB, O2, _⟩ := ins_get I.hok hy
    obtain ⟨od2, J2, _⟩ := O2.look
    refine PySem.W.cmp_K (op := .Eq) (tb := .ref C) hr.units0 hF I.ok.mod.kin J J2.type (by simp [PySem.W.notFirst]) EF.at_ EF.fn ?_
    exact wpAny_mono (go b _ ⟨a, dx, n, ts, _, rfl, hf, .inr ⟨b, dy, m, us, rfl, hg, k⟩⟩) back fun _ _ y => y
theorem ns_told {K : PySem.W.Frag} {h : Heap} {N : Addr} {mN : Str → Option Value} {n : Str} {v : Value} (inK : K.In h) (ns : h.Ns N mN) (e : PySem.W.nsIn K N n = some (some v)) : mN n = some v := by
  obtain ⟨ob, ents, free, g1, g2, g3, look⟩ := ns
  unfold PySem.W.nsIn at e
  cases lk : K.lookup N with
  | none =>
    rw [lk] at e
    cases e
  | some o2 =>
    have same := inK _ _ lk
    rw [g1] at same
    cases same
    rw [lk] at e
    obtain ⟨c1, c2, c3, c4⟩ := ob
    simp only at g2
    subst g2
    simp only at e
    split at e
    · rename_i en q
      rw [← look]
      unfold nsFind findBy
      rw [← Array.find?_toList, q]
      have ee := Option.some.inj (Option.some.inj e)
      rw [← ee]
      rfl
    · by_cases q2 : (ents.toList.any fun x => x.refKey) = true
      · rw [if_pos q2] at e
        cases e
      · rw [if_neg q2] at e
        cases e
theorem op_neF (EF : EqF X.prog X.w X.K X.mg X.base C g) (hr : Room 2 X.A) : OpR X (compareOp .NotEq) (rNeF X.K C) := by
  intro pins s σ H x y v u Q I rx ry h
  obtain ⟨a, dx, n, ts, b, dy, m, us, rfl, hf, rfl, hg, k⟩ := h
  obtain rfl : v = Value.ref a := rx
  obtain rfl : u = Value.ref b := ry
  have hf' := hf
  obtain ⟨fs, tv, hx, _⟩ := hf'
  obtain ⟨mA, O, _⟩ := ins_get I.hok hx
  have hg' := hg
  obtain ⟨gs, uv, hy, _⟩ := hg'
  obtain ⟨mB, O2, _⟩ := ins_get I.hok hy
  obtain ⟨nm, q, N, bs, hd, sn, sub, ab, col, dd, k0, k1, k2, k3, k5, newId, hC, hN, he, hn⟩ := EF.ns
  have Ns := Heap.Ns.of_isNs (PySem.W.isNs_of_in I.kIn hN)
  have fn : ∃ of, s.heap.get? g = some of ∧ of.cls = .type "function" := by
    have e := beq_iff_eq.mp EF.fn
    unfold PySem.W.typeIn at e
    cases lk : X.K.lookup g with
    | none =>
      simp [lk] at e
    | some o =>
      refine ⟨o, I.kIn _ _ lk, ?_⟩
      simpa [lk] using e
  obtain ⟨of, ho, hoc⟩ := fn
  have own : s.heap.OwnEqNoNe a C g "object" [.type "object"] := ⟨_, of, nm, q, N, bs, hd, sn, sub, ab, col, dd, k0, k1, k2, k3, k5, newId, _, some (.builtin "object.__eq__"), O.obj, rfl, I.kIn _ _ hC, Ns, ns_told I.kIn Ns he, ho, hoc, PySem.F.cmp_object.mro, PySem.F.cmp_object.eq.lookup, PySem.W.ns_none_of I.kIn Ns hn⟩
  obtain ⟨hp, gg, d, t, os⟩ := s
  have room : X.A.units + 1 < cLine := by
    have := hr.un
    omega
  refine compareOp_ne_ownEq PySem.F.cmp_object own O2.obj rfl room (wpAny_mono (wpAny_call (SlX.run_at (A := X.A.in1) (us := [.ref a, .ref b]) (ws := [.ref a, .ref b]) (Q := fun z H' => z = .bl (eqT ts us) ∧ Q (.bl (!eqT ts us)) H') EF.go (show Room 1 X.A.in1 from Room.in1 hr) I.env0.in1 pass0 I (.cons rfl (.cons rfl .nil)) ⟨a, dx, n, ts, _, rfl, hf, .inr ⟨b, dy, m, us, rfl, hg, rfl, k⟩⟩)) (fun v' s' z => ?_) fun _ _ y => y)
  obtain ⟨z', H', I', rz, ez, qz⟩ := z
  subst ez
  obtain rfl : v' = Value.bool (eqT ts us) := rz
  exact ⟨_, rfl, .bl (!eqT ts us), H', I', rfl, qz⟩
end
end G

set_option Elab.async false
set_option maxRecDepth 100000
set_option pp.maxSteps 300
namespace G
open PySem L2 PySem.Spec PyProof.Rows LamX
section
variable {K : PySem.W.Frag} {H : Hp} {a b : Addr} {xs ys : List V} {Q : VK}
theorem sl_new {lo hi : Option Int} (h : SqT K H a xs) (q : ∀ (c : Addr) (H' : Hp), Same H H' → SqT K H' c (cutV xs lo hi) → Q (.ref c) H') : rSlA K (.ref a) lo hi H Q := by
  refine ⟨a, xs, rfl, h, fun w => ?_, fun w p hp => q p _ (same_new hp) (SqT.of upd_same)⟩
  refine q a H (Same.refl _) ?_
  have e : cutV xs lo hi = xs := by
    unfold cutV
    rw [w.1, w.2, List.drop_zero, Nat.sub_zero, List.take_length]
  rw [e]
  exact h
theorem cat_new (h : SqT K H a xs) (g : SqT K H b ys) (hz : xs.length + ys.length ≤ sizeLine) (q : ∀ (c : Addr) (H' : Hp), Same H H' → SqT K H' c (xs ++ ys) → Q (.ref c) H') : rCatA K (.ref a) (.ref b) H Q := by
  refine ⟨a, b, xs, ys, rfl, rfl, h, g, hz, fun e => ?_, fun _ e => ?_, fun _ _ p hp => q p _ (same_new hp) (SqT.of upd_same)⟩
  · subst e
    exact q b H (Same.refl _) g
  · subst e
    refine q a H (Same.refl _) ?_
    rw [List.append_nil]
    exact h
end
/-! ### replaced -/
abbrev sRep : Stmt := top 12
def putAt {α : Type} (xs : List α) (j : Nat) (y : α) : List α := xs.take j ++ [y] ++ xs.drop (j + 1)
def spRep (K : PySem.W.Frag) : Sp := fun vs H Q _ => ∃ (a : Addr) (xs : List V) (j : Nat) (y : V), vs = [.ref a, .int (j : Int), y] ∧ SqT K H a xs ∧ j < xs.length ∧ xs.length ≤ 1000 ∧ ∀ (c : Addr) (H' : Hp), Same H H' → SqT K H' c (putAt xs j y) → Q (.ref c) H'
section
variable {P : Program} {w : World} {K : PySem.W.Frag} {mg : Str → Option Value} {base : Heap} {f fB fR fI C CT CN : Addr} {fd fdB fdR fdI : FuncData}
theorem scRp : FnScope ["items", "at", "item"] ["items", "at", "item"] (defScope sRep) := ⟨rfl, rfl, rfl, by decide +kernel, rfl, by decide +kernel, by decide +kernel⟩
theorem ok_rep (F : Fun K "replaced" "replaced" sRep f fd) : FnOk P w K mg base CX0 1 f fd ["items", "at", "item"] (spRep K) := by
  refine F.ok scRp (fun vs H Q E h => ?_) (fun cdv A outer s H vs Q E hr h => ?_)
  · obtain ⟨a, xs, j, y, rfl, _⟩ := h
    rfl
  · obtain ⟨a, xs, j, y, rfl, ha, hj, hz, k⟩ := h
    refine ⟨_, pss_one (ps_ret (pe_op op_catA (pe_op op_catA (pe_slice sl_tupA (pv 0) po_none (po_some (pv 1))) (pe_tup (pa_cons (pv 2) pa_nil))) (pe_slice sl_tupA (pv 0) (po_some (pe_op op_add (pv 1) pe_int)) po_none))), ?_⟩
    have line : ∀ z : Nat, z ≤ 7000 → z ≤ sizeLine := fun z h => Nat.le_trans h (by decide)
    have cj : (j : Int) + 1 = ((j + 1 : Nat) : Int) := by omega
    refine ⟨_, rfl, _, rfl, _, rfl, sl_new ha fun c1 H1 s1 e1 => ?_⟩
    rw [cut_to (Nat.le_of_lt hj)] at e1
    refine ⟨_, rfl, (by show 1 ≤ sizeLine; decide), fun p hp => ?_⟩
    have s2 := same_new (o := .tup [y]) hp
    refine cat_new (sqT_same s2 e1) (SqT.of upd_same) (line _ (by rw [List.length_take]; show _ + 1 ≤ _; omega)) fun c2 H2 s3 e2 => ?_
    refine ⟨_, rfl, _, rfl, _, _, rfl, rfl, _, rfl, ?_⟩
    dsimp only [tNoPart]
    refine sl_new (sqT_same ((s1.trans s2).trans s3) ha) fun c3 H3 s4 e3 => ?_
    rw [cj, cut_from hj] at e3
    exact cat_new (sqT_same s4 e2) e3 (line _ (by rw [List.length_append, List.length_take, List.length_drop]; show _ + 1 + _ ≤ _; omega)) fun c4 H4 s5 e4 => k c4 H4 ((((s1.trans s2).trans s3).trans s4).trans s5) e4
/-! ### Family(e) -/
theorem rowD_inj {r s : List Int} (h : rowD r = rowD s) : r = s := by
  have q : r.map PyData.int = s.map PyData.int := by
    unfold rowD at h
    injection h
  exact List.map_inj_right (fun x y e => by injection e) |>.mp q
theorem tabD_inj {r s : List (List Int)} (h : tabD r = tabD s) : r = s := by
  have q : r.map rowD = s.map rowD := by
    unfold tabD at h
    injection h
  exact List.map_inj_right (fun x y e => rowD_inj e) |>.mp q
theorem tabs_inj {ts us : List (List (List Int))} (h : ts.map tabD = us.map tabD) : ts = us := List.map_inj_right (fun x y e => tabD_inj e) |>.mp h
theorem make_any {H : Hp} {v : V} {d : PyData} {Q : VK} {E : XK} (hd : Dq K H v d)
    (q : verdict d = none → ∀ (n : Nat) (ts : List (List (List Int))) (y dy : Addr) (H' : Hp), itemsD d = ts.map tabD → FamOk n ts → Same H H' → IsFam K C H' y dy n ts → Q (.ref y) H')
    (e : ∀ p, verdict d = some p → ∀ (dd : Addr) (H' : Hp), Same H H' → H' dd = some (.xd [("place", placeV p)]) → E (.ref CT) (some dd) H') :
    ∀ y dy, H y = none → H dy = none → dy ≠ y → spInit K C CT (.ref y :: ([v] ++ [])) (upd (upd H dy (.own y)) y (.ins C dy [])) (fun v H2 => v = .non ∧ Q (.ref y) H2) E := by
  intro y dy hy hdy ne
  have s0 : Same H (upd (upd H dy (.own y)) y (.ins C dy [])) := fun b o h => by
    rw [upd_ne (ne_of_none h hy), upd_ne (ne_of_none h hdy)]
    exact h
  refine ⟨y, dy, v, d, rfl, upd_same, hd.same s0, fun hv n ts H' ei ok keep fam => ⟨rfl, q hv n ts y dy H' ei ok (fun b o h => keep b o (ne_of_none h hy) (s0 _ _ h)) fam⟩, fun p hp dd H' s hdd => e p hp dd H' (s0.trans s) hdd⟩
theorem make_good {H : Hp} {v : V} {d : PyData} {Q : VK} {E : XK} {n : Nat} {ts : List (List (List Int))} (hd : Dq K H v d) (hv : verdict d = none) (ei : itemsD d = ts.map tabD) (ok : FamOk n ts)
    (q : ∀ (y dy : Addr) (H' : Hp), Same H H' → IsFam K C H' y dy n ts → Q (.ref y) H') :
    ∀ y dy, H y = none → H dy = none → dy ≠ y → spInit K C CT (.ref y :: ([v] ++ [])) (upd (upd H dy (.own y)) y (.ins C dy [])) (fun v H2 => v = .non ∧ Q (.ref y) H2) E := by
  refine make_any hd (fun _ n' ts' y dy H' e' ok' s fam => ?_) fun p hp => by rw [hv] at hp; cases hp
  rw [ei] at e'
  have e2 := tabs_inj e'
  subst e2
  have l1 := ok.l1
  have m0 : ts[0]'(by omega) ∈ ts := List.getElem_mem _
  have en : n = n' := by rw [← (ok.ok _ m0).1, (ok'.ok _ m0).1]
  subst en
  exact q y dy H' s fam
/-! ### with_table -/
abbrev sWith : Stmt := inClass (top 13) 3
def fitsT (n : Nat) (d : PyData) : Bool := isTabD d && decide (lenD d = n)
def spWith (K : PySem.W.Frag) (C CT : Addr) : Sp := fun vs H Q E => ∃ (x dx : Addr) (n : Nat) (ts : List (List (List Int))) (v : V) (d : PyData), vs = [.ref x, v] ∧ IsFam K C H x dx n ts ∧ FamOk n ts ∧ Dq K H v d ∧
  (∀ t : List (List Int), d = tabD t → TabOk n t → ts.length < 3 → ∀ (y dy : Addr) (H' : Hp), Same H H' → IsFam K C H' y dy n (ts ++ [t]) → Q (.ref y) H') ∧
  (fitsT n d = true → ts.length = 3 → ∀ (dd : Addr) (H' : Hp), Same H H' → H' dd = some (.xd [("place", .non)]) → E (.ref CT) (some dd) H') ∧
  (fitsT n d = false → ∀ (dd : Addr) (H' : Hp), Same H H' → H' dd = some (.xd [("place", .int (ts.length : Int))]) → E (.ref CT) (some dd) H')
theorem scWt : FnScope ["self", "table"] ["self", "table"] (defScope sWith) := ⟨rfl, rfl, rfl, by decide +kernel, rfl, by decide +kernel, by decide +kernel⟩
theorem fam_len {H : Hp} {x dx : Addr} {n : Nat} {ts : List (List (List Int))} (h : IsFam K C H x dx n ts) : ∃ (fs : List (Str × V)) (a : Addr) (xs : List V), H x = some (.ins C dx fs) ∧ fs.lookup ("tables" : Str) = some (.ref a) ∧ fs.lookup ("many" : Str) = some (.int (n : Int)) ∧ SqT K H a xs ∧ Paired (IsTab K H) xs ts ∧ xs.length = ts.length := by
  obtain ⟨fs, tv, hx, l1, l2, _, _, _, a, xs, rfl, ha, hp⟩ := h
  exact ⟨fs, a, xs, hx, l1, l2, ha, hp, pr_len hp⟩
theorem dq_tabs {H : Hp} {c : Addr} {xs : List V} {ts : List (List (List Int))} (h : SqT K H c xs) (p : Paired (IsTab K H) xs ts) : Dq K H (.ref c) (tabsD ts) := .inl (dp_tabs ⟨c, xs, rfl, h, p⟩)
theorem ok_with (F : Fun K "with_table" "Family.with_table" sWith f fd) (T : TxU mg) {t3 : Tok} (m3 : mg "MOST_TABLES" = some (.int 3 t3)) (W : Fam1 K C) (BT : ExT P w K mg base CT "BadTables" "place") (gC : mg "Family" = some (.ref C))
    (R : TxW K mg "is_table" fB) (GB : FnOk P w K mg base CX0 4 fB fdB ["thing"] (spIsTab K)) (bB : Binds K fdB ["thing"] []) (MK : Mk K C fI) (GI : FnOk P w K mg base (L2.CX P w) 5 fI fdI ["self", "tables"] (spInit K C CT)) (bI : Binds K fdI ["self", "tables"] []) :
    FnOk P w K mg base (L2.CX P w) 7 f fd ["self", "table"] (spWith K C CT) := by
  refine F.okX scWt (fun vs H Q E h => ?_) (fun cdv A outer s H vs Q E hr h => ?_)
  · obtain ⟨x, dx, n, ts, v, d, rfl, _⟩ := h
    rfl
  · obtain ⟨x, dx, n, ts, v, d, rfl, hf, ok, hd, k1, k2, k3⟩ := h
    refine ⟨_, pss_cons (ps_if (pw_or (pt_not (pt_val (pe_call GB (hr.mono (by decide)) (by rfl) R.at_ R.kp bB .nil pass0 (pa_cons (pv 1) pa_nil))))
          (pw_or1 (pt_cmpR op_ne (pe_callB call_len_seq (by rfl) T.len PySem.boot_len (pa_cons (pv 1) pa_nil)) (pe_fld (pv 0) (by rfl)) (nomark _)))).pt
          (pss_one (ps_raiseG BT rfl (hr.mono (by decide)) (takes_of rfl rfl rfl rfl) (pe_callB (r := rLenQ K) call_len_seq (by rfl) T.len PySem.boot_len (pa_cons (pe_fld (pv 0) (by rfl)) pa_nil)))) pss_nil)
      (pss_cons (ps_if (pt_cmpR op_eq (pe_callB call_len_seq (by rfl) T.len PySem.boot_len (pa_cons (pe_fld (pv 0) (by rfl)) pa_nil)) (pe_glob (v := .int 3) (by rfl) m3 ⟨_, rfl⟩) (nomark _)) (pss_one (ps_raiseG BT rfl (hr.mono (by decide)) (takes_of rfl rfl rfl rfl) pe_non)) pss_nil)
      (pss_one (ps_ret (pe_make (E := E) MK GI hr (by rfl) gC bI .nil (passes_call (takes_of rfl rfl rfl rfl) (fun _ _ _ _ h => h)) (pa_cons (pe_op op_catA (pe_fld (pv 0) (by rfl)) (pe_tup (pa_cons (pv 1) pa_nil))) pa_nil))))), ?_⟩
    refine ⟨_, rfl, v, d, rfl, hd, fun H1 s1 => ?_⟩
    refine ⟨_, rfl, ?_⟩
    obtain ⟨fs, ta, xs, hx, l1, l2, ha, hp, lx⟩ := fam_len (fam_same s1 hf)
    have worse : fitsT n d = false → [V.int (ts.length : Int)].length ≤ 1000 ∧ ∀ a, H1 a = none → spEx1 CT "place" (.ref a :: ([V.int (ts.length : Int)] ++ [])) (upd H1 a (exo a CT none)) (fun v H2 => v = .non ∧ ∃ (d : Addr) (fs : List (Str × V)), H2 a = some (exo a CT (some d)) ∧ H2 d = some (exd d fs) ∧ H1 d = none ∧ E (.ref CT) (some d) (upd (del H2 a) d (.xd fs))) (fun _ _ _ => False) :=
      fun hb => raise_wish (W := E) fun dd hdd => k3 hb dd _ (s1.trans (same_new hdd)) upd_same
    have ft : fitsT n d = (isTabD d && decide (lenD d = n)) := rfl
    cases ht : isTabD d with
    | false =>
      rw [ht, Bool.false_and] at ft
      refine iteT (iteT ⟨_, rfl, x, C, dx, fs, _, rfl, hx, W.cls, W.tables, l1, ta, xs, rfl, .inr ha, ?_⟩)
      rw [lx]
      exact worse ft
    | true =>
      refine iteF ?_
      obtain ⟨t, rfl, ot, t1, t4⟩ := tab_shape ht
      obtain ⟨b, ys, rfl, hb, lb⟩ := tab_len (dq_tab (hd.same s1))
      have le : lenD (tabD t) = t.length := by
        show (t.map rowD).length = _
        rw [List.length_map]
      rw [ht, le, Bool.true_and] at ft
      refine ⟨_, rfl, b, ys, rfl, .inr hb, _, rfl, x, C, dx, fs, _, rfl, hx, W.cls, W.many, l2, rfl, _, rfl, ?_⟩
      rw [dec_ne, lb]
      by_cases hn : t.length = n
      · rw [decide_eq_true hn] at ft ⊢
        refine iteF ?_
        have l3 := ok.l3
        refine ⟨_, rfl, x, C, dx, fs, _, rfl, hx, W.cls, W.tables, l1, ta, xs, rfl, .inr ha, rfl, _, rfl, ?_⟩
        rw [lx]
        have e3 : decide (V.int (ts.length : Int) = V.int 3) = decide (ts.length = 3) := dec_ij ts.length 3
        rw [e3]
        by_cases h3 : ts.length = 3
        · rw [decide_eq_true h3]
          exact iteT (raise_wish (W := E) fun dd hdd => k2 ft h3 dd _ (s1.trans (same_new hdd)) upd_same)
        · rw [decide_eq_false h3]
          refine iteF ⟨_, rfl, x, C, dx, fs, _, rfl, hx, W.cls, W.tables, l1, _, rfl, (by show 1 ≤ sizeLine; decide), fun p hpn => ?_⟩
          have sp := same_new (o := .tup [.ref b]) hpn
          dsimp only [tNil]
          refine cat_new (sqT_same sp ha) (SqT.of upd_same) (Nat.le_trans (show xs.length + 1 ≤ 10 by omega) (by decide)) fun c H2 s2 hc => ?_
          have s12 := sp.trans s2
          have ok2 : FamOk n (ts ++ [t]) := ⟨ok.n1, ok.n4, by rw [List.length_append]; show 1 ≤ _ + 1; omega, by rw [List.length_append]; show _ + 1 ≤ 3; omega, fun u hu => by
            rcases List.mem_append.mp hu with z | z
            · exact ok.ok u z
            · rw [List.mem_singleton.mp z]
              rw [hn] at ot
              exact ot⟩
          have pr2 : Paired (IsTab K H2) (xs ++ [.ref b]) (ts ++ [t]) := pr_app (pr_ts st_tab (TS.of s12) hp) (.cons (tab_same s12 (dq_tab (hd.same s1))) .nil)
          refine make_good (dq_tabs hc pr2) (verdict_good ok2) rfl ok2 fun y dy H' s' fam => ?_
          rw [hn] at ot
          exact k1 t rfl ot (by omega) y dy H' ((s1.trans s12).trans s') fam
      · rw [decide_eq_false hn] at ft ⊢
        refine iteT ⟨_, rfl, x, C, dx, fs, _, rfl, hx, W.cls, W.tables, l1, ta, xs, rfl, .inr ha, ?_⟩
        rw [lx]
        exact worse ft
end
end G

set_option Elab.async false
set_option maxRecDepth 100000
set_option pp.maxSteps 300
namespace G
open PySem L2 PySem.Spec PyProof.Rows LamX
theorem dec_int (i j : Int) : decide (V.int i = V.int j) = decide (i = j) := by
  by_cases h : i = j
  · subst h
    rw [decide_eq_true rfl, decide_eq_true rfl]
  · rw [decide_eq_false h, decide_eq_false fun e => h (V.int.inj e)]
theorem below_num {d : PyData} {m : Nat} (h : below d (m : Int) = true) : ∃ j : Nat, d = .int (j : Int) ∧ j < m := by
  cases d with
  | int i =>
    have h2 : (decide (0 ≤ i) && decide (i < (m : Int))) = true := h
    rw [Bool.and_eq_true, decide_eq_true_eq, decide_eq_true_eq] at h2
    exact ⟨i.toNat, by rw [Int.toNat_of_nonneg h2.1], by omega⟩
  | none => cases h
  | bool b => cases h
  | str x => cases h
  | list x => cases h
  | tuple x => cases h
  | dict x => cases h
def cutAt {α : Type} (xs : List α) (j : Nat) : List α := xs.take j ++ xs.drop (j + 1)
theorem cut_sub {α : Type} {xs : List α} {j : Nat} {x : α} (h : x ∈ cutAt xs j) : x ∈ xs := (List.mem_append.mp h).elim List.mem_of_mem_take List.mem_of_mem_drop
theorem put_sub {α : Type} {xs : List α} {j : Nat} {x y : α} (h : x ∈ putAt xs j y) : x ∈ xs ∨ x = y := by
  rcases List.mem_append.mp h with h | h
  · rcases List.mem_append.mp h with h | h
    · exact .inl (List.mem_of_mem_take h)
    · exact .inr (List.mem_singleton.mp h)
  · exact .inl (List.mem_of_mem_drop h)
theorem put_len {α : Type} {xs : List α} {j : Nat} {y : α} (h : j < xs.length) : (putAt xs j y).length = xs.length := by
  unfold putAt
  rw [List.length_append, List.length_append, List.length_take, List.length_drop]
  show min j xs.length + 1 + (xs.length - (j + 1)) = _
  omega
theorem pr_put {α β : Type} {F : α → β → Prop} {xs : List α} {ys : List β} {j : Nat} {x : α} {y : β} (p : Paired F xs ys) (q : F x y) : Paired F (putAt xs j x) (putAt ys j y) := pr_app (pr_app (pr_take j p) (.cons q .nil)) (pr_drop (j + 1) p)
section
variable {P : Program} {w : World} {K : PySem.W.Frag} {mg : Str → Option Value} {base : Heap} {f fB fR fI gL C CT CN : Addr} {fd fdB fdR fdI : FuncData}
/-! ### without_table -/
abbrev sWo : Stmt := inClass (top 13) 4
def spWo (K : PySem.W.Frag) (C CN : Addr) : Sp := fun vs H Q E => ∃ (x dx : Addr) (n : Nat) (ts : List (List (List Int))) (v : V) (d : PyData), vs = [.ref x, v] ∧ IsFam K C H x dx n ts ∧ FamOk n ts ∧ Dq K H v d ∧
  (∀ j : Nat, d = .int (j : Int) → j < ts.length → 1 < ts.length → ∀ (y dy : Addr) (H' : Hp), Same H H' → IsFam K C H' y dy n (cutAt ts j) → Q (.ref y) H') ∧
  ((decide (ts.length = 1) || !below d (ts.length : Int)) = true → ∀ (dd : Addr) (H' : Hp), Same H H' → H' dd = some (.xd [("value", v)]) → E (.ref CN) (some dd) H')
theorem scWo : FnScope ["self", "number"] ["self", "number"] (defScope sWo) := ⟨rfl, rfl, rfl, by decide +kernel, rfl, by decide +kernel, by decide +kernel⟩
theorem ok_wo (F : Fun K "without_table" "Family.without_table" sWo f fd) (T : TxU mg) (W : Fam1 K C) (BN : ExT P w K mg base CN "BadNumber" "value") (gC : mg "Family" = some (.ref C))
    (R : TxW K mg "is_below" fB) (GB : FnOk P w K mg base CX0 2 fB fdB ["thing", "limit"] (spBelow K)) (bB : Binds K fdB ["thing", "limit"] []) (MK : Mk K C fI) (GI : FnOk P w K mg base (L2.CX P w) 5 fI fdI ["self", "tables"] (spInit K C CT)) (bI : Binds K fdI ["self", "tables"] []) :
    FnOk P w K mg base (L2.CX P w) 7 f fd ["self", "number"] (spWo K C CN) := by
  refine F.okX scWo (fun vs H Q E h => ?_) (fun cdv A outer s H vs Q E hr h => ?_)
  · obtain ⟨x, dx, n, ts, v, d, rfl, _⟩ := h
    rfl
  · obtain ⟨x, dx, n, ts, v, d, rfl, hf, ok, hd, k1, k2⟩ := h
    refine ⟨_, pss_cons (ps_if (pw_or (pt_cmpR op_eq (pe_callB call_len_seq (by rfl) T.len PySem.boot_len (pa_cons (pe_fld (pv 0) (by rfl)) pa_nil)) pe_int (nomark _))
          (pw_or1 (pt_not (pt_val (pe_call GB (hr.mono (by decide)) (by rfl) R.at_ R.kp bB .nil pass0 (pa_cons (pv 1) (pa_cons (pe_callB (r := rLenQ K) call_len_seq (by rfl) T.len PySem.boot_len (pa_cons (pe_fld (pv 0) (by rfl)) pa_nil)) pa_nil))))))).pt
          (pss_one (ps_raiseG BN rfl (hr.mono (by decide)) (takes_of rfl rfl rfl rfl) (pv 1))) pss_nil)
      (pss_one (ps_ret (pe_make (E := E) MK GI hr (by rfl) gC bI .nil (passes_call (takes_of rfl rfl rfl rfl) (fun _ _ _ _ h => h)) (pa_cons (pe_op op_catA (pe_slice sl_tupA (pe_fld (pv 0) (by rfl)) po_none (po_some (pv 1))) (pe_slice sl_tupA (pe_fld (pv 0) (by rfl)) (po_some (pe_op op_add (pv 1) pe_int)) po_none)) pa_nil)))), ?_⟩
    obtain ⟨fs, ta, xs, hx, l1, l2, ha, hp, lx⟩ := fam_len hf
    refine ⟨_, rfl, x, C, dx, fs, _, rfl, hx, W.cls, W.tables, l1, ta, xs, rfl, .inr ha, rfl, _, rfl, ?_⟩
    rw [lx]
    have e1 : decide (V.int (ts.length : Int) = V.int 1) = decide (ts.length = 1) := dec_ij ts.length 1
    rw [e1]
    have bad : (decide (ts.length = 1) || !below d (ts.length : Int)) = true → _ := fun hb => raise_wish (H := H) (C := CN) (f := "value") (y := v) (W := E) fun dd hdd => k2 hb dd _ (same_new hdd) upd_same
    by_cases h1 : ts.length = 1
    · rw [decide_eq_true h1] at bad ⊢
      exact iteT (iteT ⟨_, rfl, bad rfl⟩)
    · rw [decide_eq_false h1, Bool.false_or] at bad
      rw [decide_eq_false h1]
      refine iteF ?_
      refine ⟨_, rfl, _, rfl, x, C, dx, fs, _, rfl, hx, W.cls, W.tables, l1, ta, xs, rfl, .inr ha, ?_⟩
      rw [lx]
      refine ⟨v, d, _, rfl, hd, ?_⟩
      refine ⟨_, rfl, ?_⟩
      cases hb : below d (ts.length : Int) with
      | false =>
        rw [hb] at bad
        exact iteT ⟨_, rfl, bad rfl⟩
      | true =>
        refine iteF ?_
        obtain ⟨j, rfl, hj⟩ := below_num hb
        have ev := dq_int hd
        subst ev
        have l3 := ok.l3
        have lj : 1 < ts.length := by have := ok.l1; omega
        have line : ∀ z : Nat, z ≤ 7000 → z ≤ sizeLine := fun z h => Nat.le_trans h (by decide)
        have cj : (j : Int) + 1 = ((j + 1 : Nat) : Int) := by omega
        have hjx : j < xs.length := by omega
        refine ⟨_, rfl, x, C, dx, fs, _, rfl, hx, W.cls, W.tables, l1, _, rfl, _, rfl, sl_new ha fun c1 H1 s1 e1 => ?_⟩
        rw [cut_to (Nat.le_of_lt hjx)] at e1
        refine ⟨_, rfl, x, C, dx, fs, _, rfl, s1 _ _ hx, W.cls, W.tables, l1, _, rfl, _, _, rfl, rfl, _, rfl, ?_⟩
        dsimp only [tNoPart]
        refine sl_new (sqT_same s1 ha) fun c2 H2 s2 e2 => ?_
        rw [cj, cut_from hjx] at e2
        dsimp only [tNil]
        refine cat_new (sqT_same s2 e1) e2 (line _ (by rw [List.length_take, List.length_drop]; omega)) fun c3 H3 s3 e3 => ?_
        have s123 := (s1.trans s2).trans s3
        have ok2 : FamOk n (cutAt ts j) := by
          have lc : (cutAt ts j).length = ts.length - 1 := by
            unfold cutAt
            rw [List.length_append, List.length_take, List.length_drop]
            omega
          exact ⟨ok.n1, ok.n4, by rw [lc]; omega, by rw [lc]; omega, fun u hu => ok.ok u (cut_sub hu)⟩
        have pr2 : Paired (IsTab K H3) (xs.take j ++ xs.drop (j + 1)) (cutAt ts j) := pr_ts st_tab (TS.of s123) (pr_app (pr_take j hp) (pr_drop (j + 1) hp))
        exact make_good (dq_tabs e3 pr2) (verdict_good ok2) rfl ok2 fun y dy H' s' fam => k1 j rfl hj lj y dy H' (s123.trans s') fam
/-! ### changed -/
abbrev sChg : Stmt := inClass (top 13) 5
/-- the four things that are asked of, each with its limit -/
def fourP (v1 v2 v3 v4 : V) (d1 d2 d3 d4 : PyData) (m n : Nat) : List (V × PyData × Nat) := [(v1, d1, m), (v2, d2, n), (v3, d3, n), (v4, d4, 10)]
def spChg (K : PySem.W.Frag) (C CN : Addr) : Sp := fun vs H Q E => ∃ (x dx : Addr) (n : Nat) (ts : List (List (List Int))) (v1 v2 v3 v4 : V) (d1 d2 d3 d4 : PyData), vs = [.ref x, v1, v2, v3, v4] ∧ IsFam K C H x dx n ts ∧ FamOk n ts ∧
  (Dq K H v1 d1 ∧ Dq K H v2 d2 ∧ Dq K H v3 d3 ∧ Dq K H v4 d4) ∧
  (∀ (a b c e : Nat), d1 = .int (a : Int) → d2 = .int (b : Int) → d3 = .int (c : Int) → d4 = .int (e : Int) → a < ts.length → b < n → c < n → e < 10 →
    ∀ (y dy : Addr) (H' : Hp), Same H H' → IsFam K C H' y dy n (putAt ts a (putAt (ts.getD a []) b (putAt ((ts.getD a []).getD b []) c (e : Int)))) → Q (.ref y) H') ∧
  (∀ (i : Nat) (p : V × PyData × Nat), (fourP v1 v2 v3 v4 d1 d2 d3 d4 ts.length n)[i]? = some p → (∀ j, j < i → ∀ q, (fourP v1 v2 v3 v4 d1 d2 d3 d4 ts.length n)[j]? = some q → below q.2.1 (q.2.2 : Int) = true) → below p.2.1 (p.2.2 : Int) = false →
    ∀ (dd : Addr) (H' : Hp), Same H H' → H' dd = some (.xd [("value", p.1)]) → E (.ref CN) (some dd) H')
theorem scCh : FnScope ["self", "number", "row", "place", "entry", "limits", "value", "limit", "table"] ["self", "number", "row", "place", "entry"] (defScope sChg) := ⟨rfl, rfl, rfl, by decide +kernel, rfl, by decide +kernel, by decide +kernel⟩
theorem ok_chg (F : Fun K "changed" "Family.changed" sChg f fd) (T : TxU mg) {t9 : Tok} (m9 : mg "MOST_ENTRY" = some (.int 9 t9)) (W : Fam1 K C) (BN : ExT P w K mg base CN "BadNumber" "value") (gC : mg "Family" = some (.ref C))
    (R : TxW K mg "is_below" fB) (GB : FnOk P w K mg base CX0 2 fB fdB ["thing", "limit"] (spBelow K)) (bB : Binds K fdB ["thing", "limit"] [])
    (RR : TxW K mg "replaced" fR) (GR : FnOk P w K mg base CX0 1 fR fdR ["items", "at", "item"] (spRep K)) (bR : Binds K fdR ["items", "at", "item"] [])
    (MK : Mk K C fI) (GI : FnOk P w K mg base (L2.CX P w) 5 fI fdI ["self", "tables"] (spInit K C CT)) (bI : Binds K fdI ["self", "tables"] []) :
    FnOk P w K mg base (L2.CX P w) 7 f fd ["self", "number", "row", "place", "entry"] (spChg K C CN) := by
  refine F.okX scCh (fun vs H Q E h => ?_) (fun cdv A outer s H vs Q E hr h => ?_)
  · obtain ⟨x, dx, n, ts, v1, v2, v3, v4, d1, d2, d3, d4, rfl, _⟩ := h
    rfl
  · obtain ⟨x, dx, n, ts, v1, v2, v3, v4, d1, d2, d3, d4, rfl, hf, ok, ⟨hd1, hd2, hd3, hd4⟩, k1, k2⟩ := h
    refine ⟨_, pss_cons (ps_set (i := 5) scCh.nd rfl (Or.inl rfl) (pe_tup (pa_cons (pe_tup (pa_cons (pv 1) (pa_cons (pe_callB call_len_seq (by rfl) T.len PySem.boot_len (pa_cons (pe_fld (pv 0) (by rfl)) pa_nil)) pa_nil)))
          (pa_cons (pe_tup (pa_cons (pv 2) (pa_cons (pe_fld (pv 0) (by rfl)) pa_nil))) (pa_cons (pe_tup (pa_cons (pv 3) (pa_cons (pe_fld (pv 0) (by rfl)) pa_nil))) (pa_cons (pe_tup (pa_cons (pv 4) (pa_cons (pe_op op_add (pe_glob (v := .int 9) (by rfl) m9 ⟨_, rfl⟩) pe_int) pa_nil))) pa_nil))))))
      (pss_cons (ps_for (passes_of rfl) rfl (pi_tup (pv 5)) (pg_tup rfl (pgs_cons (pg_name (i := 6) scCh.nd rfl (Or.inl rfl)) (pgs_cons (pg_name (i := 7) scCh.nd rfl (Or.inl rfl)) pgs_nil)))
        (pss_one (ps_if (pt_not (pt_val (pe_call GB (hr.mono (by decide)) (by rfl) R.at_ R.kp bB .nil pass0 (pa_cons (pv 6) (pa_cons (pv 7) pa_nil))))) (pss_one (ps_raiseG BN rfl (hr.mono (by decide)) (takes_of rfl rfl rfl rfl) (pv 6))) pss_nil)))
      (pss_cons (ps_set (i := 8) scCh.nd rfl (Or.inl rfl) (pe_ix (r := rIxT K) ix_tup (pe_fld (pv 0) (by rfl)) (pv 1) (fun _ _ => rfl)))
      (pss_cons (ps_set (i := 8) scCh.nd rfl (Or.inl rfl) (pe_call GR (hr.mono (by decide)) (by rfl) RR.at_ RR.kp bR .nil pass0 (pa_cons (pv 8) (pa_cons (pv 2) (pa_cons (pe_call GR (hr.mono (by decide)) (by rfl) RR.at_ RR.kp bR .nil pass0 (pa_cons (pe_ix (r := rIxT K) ix_tup (pv 8) (pv 2) (fun _ _ => rfl)) (pa_cons (pv 3) (pa_cons (pv 4) pa_nil)))) pa_nil)))))
      (pss_one (ps_ret (pe_make (E := E) MK GI hr (by rfl) gC bI .nil (passes_call (takes_of rfl rfl rfl rfl) (fun _ _ _ _ h => h)) (pa_cons (pe_call GR (hr.mono (by decide)) (by rfl) RR.at_ RR.kp bR .nil pass0 (pa_cons (pe_fld (pv 0) (by rfl)) (pa_cons (pv 1) (pa_cons (pv 8) pa_nil)))) pa_nil))))))), ?_⟩
    obtain ⟨fs, ta, xs, hx, l1, l2, ha, hp, lx⟩ := fam_len hf
    refine ⟨_, rfl, _, rfl, x, C, dx, fs, _, rfl, hx, W.cls, W.tables, l1, ta, xs, rfl, .inr ha, ?_⟩
    rw [lx]
    refine ⟨(by show 2 ≤ sizeLine; decide), fun p1 hp1 => ?_⟩
    have s1 := same_new (o := .tup [v1, .int (ts.length : Int)]) hp1
    refine ⟨_, rfl, _, rfl, x, C, dx, fs, _, rfl, s1 _ _ hx, W.cls, W.many, l2, (by show 2 ≤ sizeLine; decide), fun p2 hp2 => ?_⟩
    have s2 := same_new (o := .tup [v2, .int (n : Int)]) hp2
    have s12 := s1.trans s2
    refine ⟨_, rfl, _, rfl, x, C, dx, fs, _, rfl, s12 _ _ hx, W.cls, W.many, l2, (by show 2 ≤ sizeLine; decide), fun p3 hp3 => ?_⟩
    have s3 := same_new (o := .tup [v3, .int (n : Int)]) hp3
    have s13 := s12.trans s3
    refine ⟨_, rfl, _, _, rfl, rfl, (by show 2 ≤ sizeLine; decide), fun p4 hp4 => ?_⟩
    have s4 := same_new (o := .tup [v4, .int (9 + 1)]) hp4
    have s14 := s13.trans s4
    refine ⟨(by show 4 ≤ sizeLine; decide), fun pl hpl => ?_⟩
    have s5 := same_new (o := .tup [.ref p1, .ref p2, .ref p3, .ref p4]) hpl
    have s15 := s14.trans s5
    generalize hH5 : upd (upd (upd (upd (upd H p1 (.tup [v1, .int (ts.length : Int)])) p2 (.tup [v2, .int (n : Int)])) p3 (.tup [v3, .int (n : Int)])) p4 (.tup [v4, .int (9 + 1)])) pl (.tup [.ref p1, .ref p2, .ref p3, .ref p4]) = H5 at s5 s15 ⊢
    let ps := fourP v1 v2 v3 v4 d1 d2 d3 d4 ts.length n
    have hL : SqT K H5 pl [.ref p1, .ref p2, .ref p3, .ref p4] := SqT.of (by rw [← hH5, upd_same])
    have all : Paired (fun (q : V) (p : V × PyData × Nat) => ∃ a, q = .ref a ∧ SqT K H5 a [p.1, .int (p.2.2 : Int)] ∧ Dq K H5 p.1 p.2.1) [.ref p1, .ref p2, .ref p3, .ref p4] ps :=
      .cons ⟨p1, rfl, SqT.of (s5 _ _ (s4 _ _ (s3 _ _ (s2 _ _ upd_same)))), hd1.same s15⟩ (.cons ⟨p2, rfl, SqT.of (s5 _ _ (s4 _ _ (s3 _ _ upd_same))), hd2.same s15⟩ (.cons ⟨p3, rfl, SqT.of (s5 _ _ (s4 _ _ upd_same)), hd3.same s15⟩ (.cons ⟨p4, rfl, SqT.of (s5 _ _ upd_same), hd4.same s15⟩ .nil)))
    refine ⟨_, rfl, pl, rfl, ⟨_, hL⟩, for_tup (fun i σ H' => (∃ o6 o7 : Option V, σ = [some (.ref x), some v1, some v2, some v3, some v4, some (.ref pl), o6, o7, none]) ∧ Same H5 H' ∧ ∀ j, j < i → ∀ q, ps[j]? = some q → below q.2.1 (q.2.2 : Int) = true)
      ⟨⟨none, none, rfl⟩, Same.refl _, fun j hj => absurd hj (Nat.not_lt_zero j)⟩ (fun _ _ _ _ ⟨_, s, _⟩ => sqT_same s hL) ?_ ?_⟩
    · rintro i y σ' H' hy ⟨⟨o6, o7, rfl⟩, s, hg⟩
      obtain ⟨p, hpi, a, rfl, haa, hda⟩ := pr_get all hy
      refine ⟨a, _, rfl, sqT_same s haa, rfl, _, _, rfl, _, _, rfl, rfl, ?_⟩
      refine ⟨_, rfl, _, rfl, p.1, p.2.1, (p.2.2 : Int), rfl, hda.same s, ?_⟩
      refine ⟨_, rfl, ?_⟩
      cases hb : below p.2.1 (p.2.2 : Int) with
      | false => exact iteT ⟨_, rfl, raise_wish (W := E) fun dd hdd => k2 i p hpi hg hb dd _ ((s15.trans s).trans (same_new hdd)) upd_same⟩
      | true =>
        refine iteF ⟨⟨_, _, rfl⟩, s, fun j hj q hq => ?_⟩
        rcases Nat.lt_succ_iff_lt_or_eq.mp hj with z | z
        · exact hg j z q hq
        · rw [z, hpi] at hq
          cases hq
          exact hb
    · rintro σ' H' ⟨⟨o6, o7, rfl⟩, s, hg⟩
      have s0 := s15.trans s
      obtain ⟨ja, rfl, ha0⟩ := below_num (hg 0 (by show 0 < 4; decide) _ rfl)
      have ha1 : ja < ts.length := ha0
      obtain ⟨jb, rfl, hb0⟩ := below_num (hg 1 (by show 1 < 4; decide) _ rfl)
      have hb1 : jb < n := hb0
      obtain ⟨jc, rfl, hc0⟩ := below_num (hg 2 (by show 2 < 4; decide) _ rfl)
      have hc1 : jc < n := hc0
      obtain ⟨je, rfl, he0⟩ := below_num (hg 3 (by show 3 < 4; decide) _ rfl)
      have he1 : je < 10 := he0
      have e1 := dq_int hd1
      have e2 := dq_int hd2
      have e3 := dq_int hd3
      have e4 := dq_int hd4
      subst e1 e2 e3 e4
      have et := getD_at (l := ts) [] ha1
      have mt := List.mem_of_getElem? et
      have ot := ok.ok _ mt
      obtain ⟨vt, hvt, ft⟩ := pr_at hp et
      obtain ⟨ct, ys, rfl, hct, pys⟩ := ft
      have er := getD_at (l := ts.getD ja []) [] (show jb < _ by rw [ot.1]; exact hb1)
      have mr := List.mem_of_getElem? er
      have or_ := ot.2 _ mr
      obtain ⟨vr, hvr, cr, rfl, hcr⟩ := pr_at pys er
      have n4 := ok.n4
      have ly : ys.length = n := by rw [pr_len pys, ot.1]
      refine ⟨_, rfl, x, C, dx, fs, _, rfl, s0 _ _ hx, W.cls, W.tables, l1, _, rfl, ?_⟩
      refine ⟨ta, xs, (ja : Int), _, rfl, rfl, sqT_same s0 ha, atI_nat hvt, ?_⟩
      refine ⟨_, rfl, _, rfl, _, rfl, _, rfl, ct, ys, (jb : Int), _, rfl, rfl, sqT_same s0 hct, atI_nat hvr, ?_⟩
      refine ⟨_, rfl, _, rfl, cr, _, jc, .int (je : Int), rfl, sqT_same s0 hcr, by rw [List.length_map, or_.1]; exact hc1, by rw [List.length_map, or_.1]; omega, fun c1 H1 t1 e1 => ?_⟩
      have s01 := s0.trans t1
      refine ⟨ct, ys, jb, .ref c1, rfl, sqT_same s01 hct, by rw [ly]; exact hb1, by omega, fun c2 H2 t2 e2 => ?_⟩
      have s02 := s01.trans t2
      refine ⟨_, rfl, x, C, dx, fs, _, rfl, s02 _ _ hx, W.cls, W.tables, l1, _, rfl, _, rfl, ?_⟩
      refine ⟨ta, xs, ja, .ref c2, rfl, sqT_same s02 ha, by omega, by have := ok.l3; omega, fun c3 H3 t3 e3 => ?_⟩
      have s03 := s02.trans t3
      have rowOk : RowOk n (putAt ((ts.getD ja []).getD jb []) jc (je : Int)) := ⟨by rw [put_len (by rw [or_.1]; exact hc1)]; exact or_.1, fun z hz => by
        rcases put_sub hz with q | q
        · exact or_.2 z q
        · omega⟩
      have tabOk : TabOk n (putAt (ts.getD ja []) jb (putAt ((ts.getD ja []).getD jb []) jc (je : Int))) := ⟨by rw [put_len (by rw [ot.1]; exact hb1)]; exact ot.1, fun z hz => by
        rcases put_sub hz with q | q
        · exact ot.2 z q
        · rw [q]
          exact rowOk⟩
      have ok2 : FamOk n (putAt ts ja (putAt (ts.getD ja []) jb (putAt ((ts.getD ja []).getD jb []) jc (je : Int)))) := ⟨ok.n1, ok.n4, by rw [put_len ha1]; exact ok.l1, by rw [put_len ha1]; exact ok.l3, fun z hz => by
        rcases put_sub hz with q | q
        · exact ok.ok z q
        · rw [q]
          exact tabOk⟩
      have er1 : putAt (((ts.getD ja []).getD jb []).map V.int) jc (.int (je : Int)) = (putAt ((ts.getD ja []).getD jb []) jc (je : Int)).map V.int := by
        unfold putAt
        rw [List.map_append, List.map_append, List.map_take, List.map_drop]
        rfl
      rw [er1] at e1
      have isR : IsRow K H3 (.ref c1) (putAt ((ts.getD ja []).getD jb []) jc (je : Int)) := ⟨c1, rfl, sqT_same (t2.trans t3) e1⟩
      have isT : IsTab K H3 (.ref c2) (putAt (ts.getD ja []) jb (putAt ((ts.getD ja []).getD jb []) jc (je : Int))) := ⟨c2, _, rfl, sqT_same t3 e2, pr_put (pr_ts st_row (TS.of s03) pys) isR⟩
      exact make_good (dq_tabs e3 (pr_put (pr_ts st_tab (TS.of s03) hp) isT)) (verdict_good ok2) rfl ok2 fun y dy H'' s' fam => k1 ja jb jc je rfl rfl rfl rfl ha1 hb1 hc1 he1 y dy H'' (s03.trans s') fam
end
end G

set_option Elab.async false
set_option maxRecDepth 100000
set_option pp.maxSteps 300
namespace G
open PySem L2 PySem.Spec PyProof.Rows LamX
/-! ### xs != [], whatever xs holds -/
def rNeL0 (K : PySem.W.Frag) : R2 := fun x y H Q => ∃ (a b : Addr) (xs : List V), x = .ref a ∧ y = .ref b ∧ SqL K H a xs ∧ SqL K H b [] ∧ Q (.bl (!xs.isEmpty)) H
theorem op_neL0 {X : Cx} (hu : X.A.units + 64 < cLine) : OpR X (compareOp .NotEq) (rNeL0 X.K) := by
  intro pins s σ H x y v u Q I rx ry h
  obtain ⟨a, b, xs, rfl, rfl, ha, hb, q⟩ := h
  obtain rfl : v = Value.ref a := rx
  obtain rfl : u = Value.ref b := ry
  obtain ⟨as, ra, pa, _⟩ := I.list ha
  obtain ⟨bs, rb, pb, _⟩ := I.list hb
  cases rb
  have room : X.A.units < cLine := by omega
  cases xs with
  | nil =>
    cases ra
    exact SeqAt.RcNeAt.lists (e := fun _ => true) pa.isList pb.isList rfl room (fun j h1 _ => absurd h1 (by simp)) _ _ _ _ ⟨.bl false, H, I, rfl, q⟩
  | cons x xs =>
    cases ra
    exact SeqAt.RcNeAt.lists_lengths pa.isList pb.isList (by simp) room _ _ _ _ ⟨.bl true, H, I, rfl, q⟩
/-- repr of an int -/
def rReprI : List V → Hp → VK → Prop := fun xs H Q => ∃ i : Int, xs = [.int i] ∧ (PyData.int i).showable = true ∧ Q (.str (PyData.int i).shown) H
theorem call_reprI {X : Cx} : CallR X (.builtin "repr") rReprI := by
  intro pins s σ H xs us Q I r h
  obtain ⟨i, rfl, hs, q⟩ := h
  obtain ⟨u, rfl, r1⟩ := vals1 r
  obtain ⟨t, rfl⟩ := (show ∃ t, u = Value.int i t from r1)
  exact PySem.P.repr_of_int (by simpa [PyData.showable] using hs) ⟨.str _, H, I.tok _, ⟨_, rfl⟩, by simpa [PyData.shown] using q⟩
theorem bt_repr : bootBuiltins "repr" = some (.builtin "repr") := by decide +kernel
section
variable {P : Program} {w : World} {K : PySem.W.Frag} {mg : Str → Option Value} {base : Heap} {f fB fW fT : Addr} {fd fdB fdW fdT : FuncData}
/-! ### _law_is_whole -/
abbrev sWh : Stmt := top 17
def wholeD (d : PyData) (lo hi : Int) : Bool := match d with
  | .int i => decide (lo ≤ i) && decide (i ≤ hi)
  | _ => false
theorem whole_below {d : PyData} {m : Int} : wholeD d 0 m = below d (m + 1) := by
  cases d with
  | int i =>
    show (decide (0 ≤ i) && decide (i ≤ m)) = (decide (0 ≤ i) && decide (i < m + 1))
    rw [show decide (i ≤ m) = decide (i < m + 1) by by_cases h : i ≤ m; rw [decide_eq_true h, decide_eq_true (by omega)]; rw [decide_eq_false h, decide_eq_false (by omega)]]
  | none => rfl
  | bool b => rfl
  | str x => rfl
  | list x => rfl
  | tuple x => rfl
  | dict x => rfl
def spWh (K : PySem.W.Frag) : Sp := fun vs H Q _ => ∃ (v : V) (d : PyData) (lo hi : Int), vs = [v, .int lo, .int hi] ∧ Dq K H v d ∧ Q (.bl (wholeD d lo hi)) H
theorem scWh : FnScope ["thing", "low", "high"] ["thing", "low", "high"] (defScope sWh) := ⟨rfl, rfl, rfl, by decide +kernel, rfl, by decide +kernel, by decide +kernel⟩
theorem ok_wh (F : Fun K "_law_is_whole" "_law_is_whole" sWh f fd) (T : TxU mg) : FnOk P w K mg base CX0 1 f fd ["thing", "low", "high"] (spWh K) := by
  refine F.ok scWh (fun vs H Q E h => ?_) (fun cdv A outer s H vs Q E hr h => ?_)
  · obtain ⟨v, d, lo, hi, rfl, _⟩ := h
    rfl
  · obtain ⟨v, d, lo, hi, rfl, hd, k⟩ := h
    refine ⟨_, pss_one (ps_ret (pe_and (pe_callB call_isi (by rfl) T.isi bt_isi (pa_cons (pv 0) (pa_cons (pe_bltn (v := .ty "int") (by rfl) T.int boot_int rfl) pa_nil)))
      (pe_and (pe_not (pe_callB call_isi (by rfl) T.isi bt_isi (pa_cons (pv 0) (pa_cons (pe_bltn (v := .ty "bool") (by rfl) T.bool bt_bool rfl) pa_nil))))
      (pe_one (pe_chain op_le op_le (pv 1) (pv 0) (pv 2)))))), ?_⟩
    refine ⟨_, rfl, ?_⟩
    refine ⟨_, _, _, _, _, rfl, .ty _, ty_dq hd, kI _, ?_⟩
    refine ⟨_, rfl, ?_⟩
    cases d with
    | none => exact iteF k
    | str x => exact iteF k
    | list x => exact iteF k
    | tuple x => exact iteF k
    | dict x => exact iteF k
    | bool b =>
      refine iteT ⟨_, rfl, ?_⟩
      refine ⟨_, _, _, _, _, rfl, .ty _, ty_dq hd, kBo _, ?_⟩
      exact ⟨_, rfl, _, rfl, iteF k⟩
    | int i =>
      refine iteT ⟨_, rfl, ?_⟩
      refine ⟨_, _, _, _, _, rfl, .ty _, ty_dq hd, kBo _, ?_⟩
      refine ⟨_, rfl, _, rfl, iteT ?_⟩
      have ev := dq_int hd
      subst ev
      refine ⟨_, rfl, _, rfl, _, _, rfl, rfl, _, rfl, ?_⟩
      have kk : Q (.bl (decide (lo ≤ i) && decide (i ≤ hi))) H := k
      refine ite2 (fun e => ?_) (fun e => ?_)
      · rw [e, Bool.true_and] at kk
        exact ⟨_, rfl, _, _, rfl, rfl, kk⟩
      · have e' : decide (lo ≤ i) = false := by
          cases hb : decide (lo ≤ i) with
          | true => exact absurd hb e
          | false => rfl
        rw [e', Bool.false_and] at kk
        exact kk
/-! ### _law_is_table -/
abbrev sLT : Stmt := top 23
def lawTab (d : PyData) (n : Nat) : Bool := isTabD d && (decide (n = 0) || decide (lenD d = n))
def spLT (K : PySem.W.Frag) : Sp := fun vs H Q _ => ∃ (v : V) (d : PyData) (n : Nat), vs = [v, .int (n : Int)] ∧ Dq K H v d ∧ n ≤ 100 ∧ ∀ H', Same H H' → Q (.bl (lawTab d n)) H'
def odds (ds : List PyData) : List PyData := ds.filter fun d => !below d 10
theorem odds_all : ∀ ds : List PyData, (odds ds).length = 0 ↔ (ds.map (below · 10)).all id = true
  | [] => by simp [odds]
  | d :: ds => by
    have ih := odds_all ds
    unfold odds at ih ⊢
    cases h : below d 10 with
    | true => simpa [h] using ih
    | false => simp [h]
theorem odds_take {ds : List PyData} {i : Nat} {d : PyData} (h : ds[i]? = some d) : (odds (ds.take (i + 1))).length = (odds (ds.take i)).length + if below d 10 = true then 0 else 1 := by
  rw [take_one h]
  unfold odds
  rw [List.filter_append, List.length_append]
  cases hb : below d 10 <;> simp [hb]
theorem scLT : FnScope ["thing", "n", "row", "x"] ["thing", "n"] (defScope sLT) := ⟨rfl, rfl, rfl, by decide +kernel, rfl, by decide +kernel, by decide +kernel⟩
theorem ok_lt (F : Fun K "_law_is_table" "_law_is_table" sLT f fd) (T : TxU mg) (R : TxW K mg "_law_is_whole" fW) (GW : FnOk P w K mg base CX0 1 fW fdW ["thing", "low", "high"] (spWh K)) (bW : Binds K fdW ["thing", "low", "high"] []) :
    FnOk P w K mg base CX0 2 f fd ["thing", "n"] (spLT K) := by
  refine F.ok scLT (fun vs H Q E h => ?_) (fun cdv A outer s H vs Q E hr h => ?_)
  · obtain ⟨v, d, n, rfl, _⟩ := h
    rfl
  · obtain ⟨v, d, n, rfl, hd, hn100, k⟩ := h
    have h64 := hu64 hr
    refine ⟨_, pss_cons (ps_if (pw_or (pt_not (pt_val (pe_callB call_isi (by rfl) T.isi bt_isi (pa_cons (pv 0) (pa_cons (pe_bltn (v := .ty "tuple") (by rfl) T.tup bt_tup rfl) pa_nil)))))
        (pw_or (pt_not (pt_chain op_le op_le pe_int (pe_callB call_len_seq (by rfl) T.len PySem.boot_len (pa_cons (pv 0) pa_nil)) pe_int))
          (pw_or1 (pw_and (pt_cmpR op_gt (pv 1) pe_int (nomark _)) (pw_and1 (pt_cmpR op_ne (pe_callB call_len_seq (by rfl) T.len PySem.boot_len (pa_cons (pv 0) pa_nil)) (pv 1) (nomark _)))).pt))).pt (pss_one (ps_ret pe_bl)) pss_nil)
      (pss_cons (ps_for PassesOwn.never rfl (pi_tup (pv 0)) (pg_name (i := 2) scLT.nd rfl (Or.inl rfl))
        (pss_one (ps_if (pw_or (pt_not (pt_val (pe_callB call_isi (by rfl) T.isi bt_isi (pa_cons (pv 2) (pa_cons (pe_bltn (v := .ty "tuple") (by rfl) T.tup bt_tup rfl) pa_nil)))))
          (pw_or (pt_cmpR op_ne (pe_callB call_len_seq (by rfl) T.len PySem.boot_len (pa_cons (pv 2) pa_nil)) (pe_callB call_len_seq (by rfl) T.len PySem.boot_len (pa_cons (pv 0) pa_nil)) (nomark _))
            (pw_or1 (pt_cmpR (op_neL0 h64) (pe_lc (own := [("x", 3)]) (g := gName 3) (by rfl) scLT.nd (pi_tup (pv 2)) (blkOk_by (own := [("x", 3)]) (N := ["thing", "n", "row", "x"]) (sc := defScope sLT) (by decide +kernel)) (fun _ _ _ _ _ => pg_name (i := 3) scLT.nd rfl (Or.inl rfl))
              (fun _ _ _ _ _ => pts_one (pt_not (pt_val (pe_call GW hr (by rfl) R.at_ R.kp bW .nil pass0 (pa_cons (pv 3) (pa_cons pe_int (pa_cons pe_int pa_nil)))))))
              (fun _ _ _ _ _ => pv 3)) (pe_lst pa_nil) (nomark _))))).pt (pss_one (ps_ret pe_bl)) pss_nil)))
      (pss_one (ps_ret pe_bl))), ?_⟩
    refine ⟨_, rfl, ?_⟩
    refine ⟨_, _, _, _, _, rfl, .ty _, ty_dq hd, kTu _, ?_⟩
    refine ⟨_, rfl, ?_⟩
    rcases hd.not_tup with h0 | ⟨ds, rfl⟩
    · rw [h0]
      have e : lawTab d n = false := by cases d <;> first | rfl | cases h0
      rw [e] at k
      exact iteT (iteT (k _ (Same.refl _)))
    · obtain ⟨a, xs, rfl, ha, hp⟩ := dq_items hd
      have lx := pr_len hp
      refine iteF ?_
      have kk : ∀ H', Same H H' → Q (.bl ((decide (1 ≤ ds.length) && decide (ds.length ≤ 4) && (ds.map (isRowD · ds.length)).all id) && (decide (n = 0) || decide (ds.length = n)))) H' := k
      refine ⟨_, rfl, a, xs, rfl, .inr ha, _, _, rfl, rfl, _, rfl, ?_⟩
      rw [lx]
      have c1 : decide ((1 : Int) ≤ (ds.length : Int)) = decide (1 ≤ ds.length) := by
        by_cases h : 1 ≤ ds.length
        · rw [decide_eq_true h]; exact decide_eq_true (by omega)
        · rw [decide_eq_false h]; exact decide_eq_false (by omega)
      have c4 : decide ((ds.length : Int) ≤ 4) = decide (ds.length ≤ 4) := by
        by_cases h : ds.length ≤ 4
        · rw [decide_eq_true h]; exact decide_eq_true (by omega)
        · rw [decide_eq_false h]; exact decide_eq_false (by omega)
      rw [c1]
      by_cases h1 : 1 ≤ ds.length
      · rw [decide_eq_true h1, Bool.true_and] at kk
        rw [decide_eq_true h1]
        refine iteT ⟨_, _, rfl, rfl, ?_⟩
        refine ⟨_, rfl, ?_⟩
        rw [c4]
        by_cases h4 : ds.length ≤ 4
        · rw [decide_eq_true h4, Bool.true_and] at kk
          rw [decide_eq_true h4]
          refine iteF ?_
          have kl : (n = 0 ∨ ds.length = n) → ∀ H', Same H H' → Q (.bl ((ds.map (isRowD · ds.length)).all id)) H' := fun h => by
            have e : (decide (n = 0) || decide (ds.length = n)) = true := by
              rcases h with h | h
              · rw [decide_eq_true h, Bool.true_or]
              · rw [decide_eq_true h, Bool.or_true]
            rw [e, Bool.and_true] at kk
            exact kk
          have bad : ∀ {i : Nat} {z : PyData}, ds[i]? = some z → isRowD z ds.length = false → (ds.map (isRowD · ds.length)).all id = false := fun {i z} hz hb => by
            rw [Bool.eq_false_iff]
            intro h
            rw [List.all_eq_true] at h
            have q := h _ (List.mem_map.mpr ⟨z, List.mem_of_getElem? hz, rfl⟩)
            rw [show isRowD z ds.length = false from hb] at q
            cases q
          refine ⟨_, rfl, _, _, rfl, rfl, _, rfl, ?_⟩
          rcases (show (n = 0) ∨ (0 < n ∧ ds.length = n) ∨ (0 < n ∧ ds.length ≠ n) by omega) with h0 | h0 | h0
          rotate_left 2
          · rw [show decide ((n : Int) > 0) = true from decide_eq_true (by omega)]
            refine iteT ⟨_, rfl, a, xs, rfl, .inr ha, _, rfl, rfl, _, rfl, ?_⟩
            rw [dec_ne, lx, decide_eq_false h0.2]
            have e : (decide (n = 0) || decide (ds.length = n)) = false := by rw [decide_eq_false (show ¬ n = 0 by omega), decide_eq_false h0.2]; rfl
            rw [e, Bool.and_false] at kk
            exact iteT (kk _ (Same.refl _))
          all_goals
            have kl2 := kl (by omega)
            first
              | (rw [show decide ((n : Int) > 0) = false from decide_eq_false (by omega)]; refine iteF (iteF ?_))
              | (rw [show decide ((n : Int) > 0) = true from decide_eq_true (by omega)]; refine iteT ⟨_, rfl, a, xs, rfl, .inr ha, _, rfl, rfl, _, rfl, ?_⟩; rw [dec_ne, lx, decide_eq_true h0.2]; refine iteF (iteF ?_))
              | (rw [show decide ((n : Int) > 0) = true from decide_eq_true (by omega)]; refine iteT ⟨_, rfl, a, xs, rfl, .inr ha, _, rfl, rfl, _, rfl, ?_⟩; rw [dec_ne, lx, decide_eq_true h0.2]; refine iteF ?_)
            refine ⟨_, rfl, a, rfl, ⟨xs, ha⟩, for_tup (fun i σ H' => (∃ o2 : Option V, σ = [some (.ref a), some (.int (n : Int)), o2, none]) ∧ Same H H' ∧ ∀ j, j < i → ∀ z, ds[j]? = some z → isRowD z ds.length = true)
              ⟨⟨none, rfl⟩, Same.refl _, fun j hj => absurd hj (Nat.not_lt_zero j)⟩ (fun _ _ _ _ ⟨_, s, _⟩ => sqT_same s ha) ?_ ?_⟩
            · rintro i y σ' H1 hy ⟨⟨o2, rfl⟩, s1, hg⟩
              obtain ⟨z, hz, hfz⟩ := pr_get hp hy
              have hfz1 := hfz.same s1
              refine ⟨_, rfl, _, _, _, _, _, rfl, .ty _, ty_dq hfz1, kTu _, ?_⟩
              refine ⟨_, rfl, ?_⟩
              rcases hfz1.not_tup with g0 | ⟨es, rfl⟩
              · rw [g0]
                have e : isRowD z ds.length = false := by cases z <;> first | rfl | cases g0
                refine iteT (iteT ?_)
                have q := kl2 _ s1
                rw [bad hz e] at q
                exact q
              · obtain ⟨b, ys, rfl, hb, hq⟩ := dq_items hfz1
                have ly := pr_len hq
                have rd : isRowD (.tuple es) ds.length = (decide (es.length = ds.length) && (es.map (below · 10)).all id) := rfl
                refine iteF ?_
                refine ⟨_, rfl, b, ys, rfl, .inr hb, _, rfl, a, xs, rfl, .inr (sqT_same s1 ha), rfl, _, rfl, ?_⟩
                rw [dec_ne, ly, lx]
                by_cases hl : es.length = ds.length
                · rw [decide_eq_true hl, Bool.true_and] at rd
                  rw [decide_eq_true hl]
                  refine iteF ?_
                  refine ⟨_, rfl, b, rfl, ⟨ys, hb⟩, fun D hD => lc_tup (xs := ys) (fun i H' => Same H1 H' ∧ ∃ zs, H' D = some (.lst zs) ∧ zs.length = (odds (es.take i)).length) ⟨same_new hD, [], upd_same, rfl⟩ (fun i H' _ p => sqT_same p.1 hb) (fun i x H' hi p => ?_) (fun H' p => ?_)⟩
                  · obtain ⟨s2, zs, eD, lz⟩ := p
                    obtain ⟨u, hu, hfu⟩ := pr_get hq hi
                    have ot := odds_take hu
                    have small : zs.length < sizeLine := by
                      have : (odds (es.take i)).length ≤ (es.take i).length := List.length_filter_le _ _
                      rw [List.length_take] at this
                      exact Nat.lt_of_le_of_lt (show zs.length ≤ 400 by omega) (by decide)
                    refine ⟨rfl, ?_⟩
                    refine ⟨_, rfl, x, u, 0, 9, rfl, hfu.same s2, ?_⟩
                    refine ⟨_, rfl, ?_⟩
                    have ew : wholeD u 0 9 = below u 10 := whole_below
                    rw [ew]
                    cases hb' : below u 10 with
                    | true =>
                      refine iteF ⟨s2, zs, eD, ?_⟩
                      rw [ot, hb', lz]
                      rfl
                    | false =>
                      refine iteT ⟨_, rfl, zs, eD, small, same_wr s2 hD, _, upd_same, ?_⟩
                      rw [List.length_append, ot, hb', lz]
                      rfl
                  · obtain ⟨s2, zs, eD, lz⟩ := p
                    rw [ly, List.take_length] at lz
                    refine ⟨Nat.zero_le _, fun p2 h2 => ⟨D, p2, zs, rfl, rfl, SqL.of (same_new h2 _ _ eD), SqL.of upd_same, _, rfl, ?_⟩⟩
                    have oa := odds_all es
                    rw [← lz] at oa
                    have s3 := (s1.trans s2).trans (same_new (o := .lst []) h2)
                    cases zs with
                    | nil =>
                      refine iteF ⟨⟨_, rfl⟩, s3, fun j hj u hu => ?_⟩
                      rcases Nat.lt_succ_iff_lt_or_eq.mp hj with q | q
                      · exact hg j q u hu
                      · rw [q, hz] at hu
                        cases hu
                        rw [rd]
                        exact oa.mp rfl
                    | cons w ws =>
                      refine iteT ?_
                      have e : isRowD (.tuple es) ds.length = false := by
                        rw [rd, Bool.eq_false_iff]
                        intro h
                        exact absurd (oa.mpr h) (by simp)
                      have q := kl2 _ s3
                      rw [bad hz e] at q
                      exact q
                · rw [decide_eq_false hl, Bool.false_and] at rd
                  rw [decide_eq_false hl]
                  refine iteT (iteT ?_)
                  have q := kl2 _ s1
                  rw [bad hz rd] at q
                  exact q
            · rintro σ' H1 ⟨⟨o2, rfl⟩, s1, hg⟩
              have e : (ds.map (isRowD · ds.length)).all id = true := by
                rw [List.all_eq_true]
                intro b hb
                obtain ⟨z, hz, rfl⟩ := List.mem_map.mp hb
                obtain ⟨j, hj, ej⟩ := List.getElem_of_mem hz
                exact hg j (by rw [lx]; exact hj) z (by rw [List.getElem?_eq_getElem hj, ej])
              have q := kl2 _ s1
              rw [e] at q
              exact q
        · rw [decide_eq_false h4, Bool.false_and, Bool.false_and] at kk
          rw [decide_eq_false h4]
          exact iteT (iteT (kk _ (Same.refl _)))
      · rw [decide_eq_false h1, Bool.false_and, Bool.false_and, Bool.false_and] at kk
        rw [decide_eq_false h1]
        exact iteF ⟨_, rfl, iteT (iteT (kk _ (Same.refl _)))⟩
end
end G

set_option Elab.async false
set_option maxRecDepth 100000
set_option pp.maxSteps 300
namespace G
open PySem L2 PySem.Spec PyProof.Rows LamX
/-! ### _law_due -/
abbrev sDue : Stmt := top 24
/-- what is told of a refusal -/
def toldD (x : Str) (d : PyData) : PyData := .tuple [.str x, .str d.shown]
def dueD (d : PyData) : PyData := match verdict d with
  | none => .tuple (itemsD d)
  | some p => toldD "tables" (placeD p)
def spDue (K : PySem.W.Frag) : Sp := fun vs H Q _ => ∃ (v : V) (d : PyData), vs = [v] ∧ Dq K H v d ∧ ∀ (y : V) (H' : Hp), Same H H' → Dq K H' y (dueD d) → Q y H'
theorem shown_none : (PyData.none).shown = "None" := rfl
theorem dq_two {K : PySem.W.Frag} {H : Hp} {p : Addr} {x y : Str} (h : SqT K H p [.str x, .str y]) : Dq K H (.ref p) (.tuple [.str x, .str y]) := .inl (.tup h (.cons (.str _) (.cons (.str _) .nil)))
section
variable {P : Program} {w : World} {K : PySem.W.Frag} {mg : Str → Option Value} {base : Heap} {f fT : Addr} {fd fdT : FuncData}
theorem scDu : FnScope ["tables", "at", "table"] ["tables"] (defScope sDue) := ⟨rfl, rfl, rfl, by decide +kernel, rfl, by decide +kernel, by decide +kernel⟩
theorem ok_due (F : Fun K "_law_due" "_law_due" sDue f fd) (T : TxU mg) (R : TxW K mg "_law_is_table" fT) (GT : FnOk P w K mg base CX0 2 fT fdT ["thing", "n"] (spLT K)) (bT : Binds K fdT ["thing", "n"] []) :
    FnOk P w K mg base CX0 3 f fd ["tables"] (spDue K) := by
  refine F.ok scDu (fun vs H Q E h => ?_) (fun cdv A outer s H vs Q E hr h => ?_)
  · obtain ⟨v, d, rfl, _⟩ := h
    rfl
  · obtain ⟨v, d, rfl, hd, k⟩ := h
    refine ⟨_, pss_cons (ps_if (pw_or (pt_not (pt_val (pe_callB call_isiT (by rfl) T.isi bt_isi (pa_cons (pv 0) (pa_cons (pe_tup (pa_cons (pe_bltn (v := .ty "list") (by rfl) T.list bt_listB rfl) (pa_cons (pe_bltn (v := .ty "tuple") (by rfl) T.tup bt_tup rfl) pa_nil))) pa_nil)))))
        (pw_or1 (pt_not (pt_chain op_le op_le pe_int (pe_callB call_len_seq (by rfl) T.len PySem.boot_len (pa_cons (pv 0) pa_nil)) pe_int)))).pt (pss_one (ps_ret (pe_tup (pa_cons pe_str (pa_cons pe_str pa_nil))))) pss_nil)
      (pss_cons (ps_for PassesOwn.never rfl (pi_enumA (by rfl) T.enum (pa_cons (pv 0) pa_nil)) (pg_tup rfl (pgs_cons (pg_name (i := 1) scDu.nd rfl (Or.inl rfl)) (pgs_cons (pg_name (i := 2) scDu.nd rfl (Or.inl rfl)) pgs_nil)))
        (pss_one (ps_if (pt_not (pt_val (pe_call GT hr (by rfl) R.at_ R.kp bT .nil pass0 (pa_cons (pv 2) (pa_cons (pe_ifExp (pt_cmpR op_gt (pv 1) pe_int (nomark _)) (pe_callB (r := rLenQ K) call_len_seq (by rfl) T.len PySem.boot_len (pa_cons (pe_ix (r := rIx2 K) ix2 (pv 0) pe_int (fun _ _ => rfl)) pa_nil)) pe_int) pa_nil)))))
          (pss_one (ps_ret (pe_tup (pa_cons pe_str (pa_cons (pe_callB call_reprI (by rfl) T.repr bt_repr (pa_cons (pv 1) pa_nil)) pa_nil))))) pss_nil)))
      (pss_one (ps_ret (pe_callTy (r := rTupOf K) call_tuple_of (by rfl) T.tup bt_tup (pa_cons (pv 0) pa_nil))))), ?_⟩
    refine ⟨_, rfl, (by show 2 ≤ sizeLine; decide), fun p1 h1 => ?_⟩
    have s1 := same_new (o := .tup [.ty "list", .ty "tuple"]) h1
    refine ⟨v, p1, [.ty "list", .ty "tuple"], _, [.type "list", .type "tuple"], _, rfl, upd_same, .cons (.ty _) (.cons (.ty _) .nil), ty_dq (hd.same s1), any_of (.cons (kLi d) (.cons (kTu d) .nil)), ?_⟩
    refine ⟨_, rfl, ?_⟩
    have bad : verdict d = some none → ∀ H1, Same H H1 → ∀ p, H1 p = none → Q (.ref p) (upd H1 p (.tup [.str "tables", .str "None"])) := fun hv H1 s p hp => by
      refine k _ _ (s.trans (same_new hp)) ?_
      unfold dueD
      rw [hv]
      exact dq_two (SqT.of upd_same)
    cases hq : [isLi d, isTu d].any id with
    | false => exact iteT (iteT ⟨(by show 2 ≤ sizeLine; decide), fun p hp => bad (no_seq hq) _ s1 p hp⟩)
    | true =>
      obtain ⟨a, xs, rfl, hA, hp, ev⟩ := dq_seq hq hd
      have edue : dueD d = match verdict d with
        | none => .tuple (itemsD d)
        | some p => toldD "tables" (placeD p) := rfl
      generalize hds : itemsD d = ds at hp ev edue
      have lx : xs.length = ds.length := pr_len hp
      refine iteF ?_
      refine ⟨_, rfl, a, xs, rfl, sqA_same s1 hA, _, _, rfl, rfl, _, rfl, ?_⟩
      rw [lx]
      have out : ¬ (1 ≤ ds.length ∧ ds.length ≤ 3) → verdict d = some none := fun h => by
        rw [ev]
        unfold verdictL
        rw [if_neg h]
      by_cases g1 : 1 ≤ ds.length
      · rw [show decide ((1 : Int) ≤ (ds.length : Int)) = true from decide_eq_true (by omega)]
        refine iteT ⟨_, _, rfl, rfl, ?_⟩
        refine ⟨_, rfl, ?_⟩
        by_cases g3 : ds.length ≤ 3
        · rw [show decide ((ds.length : Int) ≤ 3) = true from decide_eq_true (by omega)]
          refine iteF ?_
          have ev2 : verdict d = ((List.range ds.length).find? fun i => !goodAt ds i).map some := by
            rw [ev]
            unfold verdictL
            rw [if_pos ⟨g1, g3⟩]
          let H1 : Hp := upd H p1 (.tup [.ty "list", .ty "tuple"])
          rcases sqA_same s1 hA with q | q
          all_goals
            first
              | refine ⟨_, rfl, a, xs, rfl, .inl ⟨q, for_enumA (.inl ⟨rfl, fun _ s => sqL_same s q⟩) (fun i σ' H' => (∃ o2 o3 : Option V, σ' = [some (.ref a), o2, o3]) ∧ Same H1 H' ∧ ∀ j, j < i → goodAt ds j = true) ⟨⟨none, none, rfl⟩, Same.refl _, fun j hj => absurd hj (Nat.not_lt_zero j)⟩ (fun _ _ _ ⟨_, s, _⟩ => s) ?_ ?_⟩⟩
              | refine ⟨_, rfl, a, xs, rfl, .inr ⟨q, for_enumA (.inr ⟨rfl, fun _ s => sqT_same s q⟩) (fun i σ' H' => (∃ o2 o3 : Option V, σ' = [some (.ref a), o2, o3]) ∧ Same H1 H' ∧ ∀ j, j < i → goodAt ds j = true) ⟨⟨none, none, rfl⟩, Same.refl _, fun j hj => absurd hj (Nat.not_lt_zero j)⟩ (fun _ _ _ ⟨_, s, _⟩ => s) ?_ ?_⟩⟩
            · rintro i y σ' H' Tp hy ⟨⟨o2, o3, rfl⟩, s, hg⟩ hT
              obtain ⟨z, hz, hfz⟩ := pr_get hp hy
              have hi : i < ds.length := (List.getElem?_eq_some_iff.mp hz).1
              have sT := (s1.trans s).trans (same_new (o := .tup [.int (i : Nat), y]) hT)
              have zz : ds.getD i .none = z := by
                rw [List.getD_eq_getElem?_getD, hz]
                rfl
              have after : ∀ (n : Nat) (H2 : Hp), lawTab z n = goodAt ds i → Same H H2 → (goodAt ds i = true → Same H1 H2) → True := fun _ _ _ _ _ => True.intro
              refine ⟨Tp, _, rfl, SqT.of upd_same, rfl, _, _, rfl, _, _, rfl, rfl, ?_⟩
              refine ⟨_, rfl, _, rfl, _, _, rfl, rfl, _, rfl, ?_⟩
              have worse : goodAt ds i = false → ∀ H2, Same H H2 → ∀ p, H2 p = none → Q (.ref p) (upd H2 p (.tup [.str "tables", .str (PyData.int (i : Int)).shown])) := fun hb H2 sU p hp => by
                refine k _ _ (sU.trans (same_new hp)) ?_
                rw [edue, ev2, find_first hi (by rw [hb]; rfl) (fun j hj => by rw [hg j hj]; rfl)]
                exact dq_two (SqT.of upd_same)
              have shI : (PyData.int (i : Int)).showable = true := by
                have := (nice_int (i := (i : Int)) (by omega)).sh
                exact this
              rcases Nat.eq_zero_or_pos i with ei | ei
              · subst ei
                refine iteF ?_
                refine ⟨y, z, 0, rfl, hfz.same sT, by omega, fun H2 s2 => ?_⟩
                refine ⟨_, rfl, ?_⟩
                have eg : lawTab z 0 = goodAt ds 0 := by
                  unfold lawTab goodAt
                  rw [zz, decide_eq_true rfl, decide_eq_true rfl]
                  rfl
                rw [eg]
                cases hb : goodAt ds 0 with
                | false => exact iteT ⟨_, rfl, 0, rfl, shI, (by show 2 ≤ sizeLine; decide), fun p hp => worse hb _ (sT.trans s2) p hp⟩
                | true =>
                  refine iteF ⟨⟨_, _, rfl⟩, (s.trans (same_new hT)).trans s2, fun j hj => ?_⟩
                  have ej : j = 0 := by omega
                  rw [ej]
                  exact hb
              · rw [show decide (((i : Nat) : Int) > 0) = true from decide_eq_true (by omega)]
                refine iteT ?_
                have g0 := hg 0 ei
                unfold goodAt at g0
                rw [Bool.and_eq_true] at g0
                obtain ⟨t0, e0, _, t1, t4⟩ := tab_shape g0.1
                have ez0 : ds[0]? = some (tabD t0) := by
                  rw [getD_at .none (show 0 < ds.length by omega), e0]
                obtain ⟨v0, hv0, hf0⟩ := pr_at hp ez0
                obtain ⟨b0, ys0, rfl, hb0, lb0⟩ := tab_len (dq_tab (hf0.same sT))
                refine ⟨_, rfl, ?_⟩
                dsimp only [tC]
                refine ix2_0 (sqA_same sT hA) hv0 ?_
                refine ⟨b0, ys0, rfl, .inr hb0, ?_⟩
                rw [lb0]
                refine ⟨y, z, t0.length, rfl, hfz.same sT, by omega, fun H2 s2 => ?_⟩
                refine ⟨_, rfl, ?_⟩
                have le : lenD (tabD t0) = t0.length := by
                  show (t0.map rowD).length = _
                  rw [List.length_map]
                have eg : lawTab z t0.length = goodAt ds i := by
                  unfold lawTab goodAt
                  rw [zz, e0, le, decide_eq_false (show ¬ t0.length = 0 by omega), Bool.false_or]
                rw [eg]
                cases hb : goodAt ds i with
                | false => exact iteT ⟨_, rfl, (i : Int), rfl, shI, (by show 2 ≤ sizeLine; decide), fun p hp => worse hb _ (sT.trans s2) p hp⟩
                | true =>
                  refine iteF ⟨⟨_, _, rfl⟩, (s.trans (same_new hT)).trans s2, fun j hj => ?_⟩
                  rcases Nat.lt_succ_iff_lt_or_eq.mp hj with q | q
                  · exact hg j q
                  · rw [q]
                    exact hb
            · rintro σ' H' ⟨⟨o2, o3, rfl⟩, s, hg⟩
              rw [lx] at hg
              have hv : verdict d = none := by
                rw [ev2, find_none fun j hj => by rw [hg j hj]; rfl]
                rfl
              obtain ⟨n, ts, ed, ok⟩ := all_good g1 g3 hg
              have sT := s1.trans s
              have hp' : Paired (IsTab K H) xs ts := by
                rw [ed] at hp
                exact pr_imp (fun _ _ => dq_tab) hp
              refine ⟨_, rfl, ?_⟩
              dsimp only [tNil]
              refine tup_any (sqA_same sT hA) fun b H2 s2 hb => ?_
              refine k _ _ (sT.trans s2) ?_
              rw [edue, hv, ed]
              exact dq_tabs hb (pr_ts st_tab (TS.of (sT.trans s2)) hp')
        · rw [show decide ((ds.length : Int) ≤ 3) = false from decide_eq_false (by omega)]
          exact iteT ⟨(by show 2 ≤ sizeLine; decide), fun p hp => bad (out fun h => g3 h.2) _ s1 p hp⟩
      · rw [show decide ((1 : Int) ≤ (ds.length : Int)) = false from decide_eq_false (by omega)]
        exact iteF ⟨_, rfl, iteT ⟨(by show 2 ≤ sizeLine; decide), fun p hp => bad (out fun h => g1 h.1) _ s1 p hp⟩⟩
end
end G

set_option Elab.async false
set_option maxRecDepth 100000
/-! try with several clauses, each of which names its error. -/
namespace G
open PySem L2 PySem.Spec PyProof.Rows
/-- a clause: its class, the slot of its name, the reading of its suite -/
structure Clause where
  cl : Value
  sl : Nat
  rd : Addr → Value → Option Addr → L2.TS
/-- the ends of a suite, its name gone -/
def gone (D : Ends) (i : Nat) : Ends := { nx := fun σ H => D.nx (σ.set i none) H, rt := D.rt, bk := fun σ H => D.bk (σ.set i none) H, ct := fun σ H => D.ct (σ.set i none) H }
def wCl (K : PySem.W.Frag) (Wo : WX) (D : Ends) : List Clause → WX
  | [] => Wo
  | k :: r => fun cls d σ H => ∃ b, PySem.W.exmOne K cls k.cl = some b ∧ (b = true → ∀ a, H a = none → k.rd a cls d (gone D k.sl) (σ.set k.sl (some (.ref a))) H) ∧ (b = false → wCl K Wo D r cls d σ H)
inductive Cls2 (X : Cx) : List ExceptHandler → List Clause → Prop
  | none : Cls2 X [] []
  | more {x n : Str} {k : Clause} {b : Stmt} {su : List Stmt} {p1 p2 : Pos} {hds : List ExceptHandler} {l : List Clause} (known : Names X x k.cl) (slot : X.N[k.sl]? = some n) (own : X.env.kindOf n = some .local)
      (suite : ∀ (a : Addr) (o : Obj) (cls : Value) (d : Option Addr) (pn : List (Addr × Obj)), Zc cls d o → (∃ vs, o.data = .fields vs) → PSs (X.suite a ((a, o) :: pn)) (b :: su) (k.rd a cls d)) (rest : Cls2 X hds l) :
      Cls2 X (.ExceptHandler (some (.Name x p1)) (some n) (b :: su) p2 :: hds) (k :: l)
section
variable {X : Cx} {body : List Stmt} {c0 : ExceptHandler} {cs : List ExceptHandler} {l : List Clause} {pos : Pos} {tb : WX → L2.TS} {Wo : WX}
theorem ps_try_cls (st : X.stack = X.env :: X.outer) (fr : X.env.frame = some X.env.locals) (nd : X.N.Nodup) (out : Takes X Wo)
    (bodyOk : ∀ (W : WX) (pn : List (Addr × Obj)) (xe : Value → Shared → Prop), Takes (X.tr pn xe) W → PassesOwn (model X.prog X.w) X.A X.env xe → PSs (X.tr pn xe) body (tb W))
    (all : Cls2 X (c0 :: cs) l) : PS X (.Try body (c0 :: cs) [] [] pos) (fun D σ H => tb (wCl X.K Wo D l) D σ H) := by
  refine ⟨fun pins s0 σ0 H0 D J0 rd0 => ?_⟩
  have okX := J0.ok
  have frs0 : X.A.frames = some (X.env :: X.outer) := by
    rw [okX.frames, st]
  refine wpAny_Try_except (wpAny_mono ((bodyOk (wCl X.K Wo D l) (X.pn ++ pins) (fun er t1 => wpAny (model X.prog X.w) X.A (noteFrame er X.env) (fun _ t2 => wpAny (model X.prog X.w) X.A (setFlight er none) (fun _ t3 =>
    wpAny (model X.prog X.w) X.A (handleBy er X.env (c0 :: cs)) (SP X pins D) X.xe t3) X.xe t2) X.xe t1) (fun er t0 air => ?_) PassesOwn.looking).run [] s0 σ0 H0 D (J0.toTry _) rd0) (fun fl t1 good => ?_) (fun _ _ z => z))
  · obtain ⟨e, ground, sE, pinsE, σE, HE, cls, d, rfl, JE, base, upto, sky, noE, oss, gens, wish⟩ := air
    have J1 : Inv X pins σE HE sE := JE.ofTry okX
    have sky1 : Sky ground (X.env :: X.outer) e (Zc cls d) X.env.locals t0.heap := by
      rw [← st]
      exact sky
    refine (Sky.land Zc.steady frs0 fr sky1 fun hA flA upA => ?_ : wpAny (model X.prog X.w) X.A (noteFrame (.ref e) X.env) _ _ _)
    have JA : Inv X pins σE HE { t0 with heap := hA } := J1.landed base flA.1 (upto.trans upA) oss gens
    obtain ⟨oA, vA, getA, zA, dataA⟩ := flA.there
    have off : e ∉ frs (X.env :: X.outer) := fun inF => by
      obtain ⟨_, oB, getB, notFields⟩ := flA.2.2.1.mem inF
      rw [getA] at getB
      cases getB
      exact notFields _ dataA
    have offL : e ≠ X.env.locals := fun z => off (List.mem_filterMap.mpr ⟨X.env, List.mem_cons_self, by rw [fr, z]⟩)
    have offF : e ∉ X.fs := fun inF => by
      obtain ⟨en, m1, m2⟩ := List.mem_filterMap.mp inF
      exact off (List.mem_filterMap.mpr ⟨en, List.mem_cons_of_mem _ m1, m2⟩)
    have SA := JA.suite getA dataA noE offL offF
    have walk : ∀ {hs : List ExceptHandler} {ks : List Clause}, Cls2 X hs ks → wCl X.K Wo D ks cls d σE HE → wpAny (model X.prog X.w) X.A (handleBy (.ref e) X.env hs) (SP X pins D) X.xe { t0 with heap := hA } := by
      intro hs ks each
      induction each with
      | none =>
        intro away
        refine wpAny_handleBy_nil ?_
        obtain ⟨_, _, _, oC, vC, Tr, oT, _, getC, _, dataC, one, _⟩ := id flA
        unfold PySem.passOn
        refine wpAny_bind (wpAny_field getC dataC one ?_)
        rw [if_neg (show ¬ ((Value.ref Tr == Value.none) = true) by simp)]
        have up : wpAny (model X.prog X.w) X.A (setFlight (.ref e) X.env.frame) (fun _ t4 => wpAny (model X.prog X.w) X.A (throw (.ref e) : Sem Flow) (SP X pins D) X.xe t4) X.xe { t0 with heap := hA } := by
          rw [fr]
          exact HandSPX.setFlight_upZ flA fun hD skyD upD => wpAny_throw (out _ _ ⟨e, ground, sE, pins, σE, HE, cls, d, rfl, J1, base, (upto.trans upA).trans upD, .inr (.inr (by rw [st]; exact skyD)), noE, oss, gens, away⟩)
        first
          | exact wpAny_bind (wpAny_pure (wpAny_bind up))
          | exact wpAny_bind up
      | @more x n k b su p1 p2 hds ks known slot own suite rest next =>
        rintro ⟨hit, asks, yes, no⟩
        refine wpAny_handleBy_cons (codeAny_handlers_test ?_) (fun q => by cases q)
        have type_ : PySem.W.Looks (model X.prog X.w) hA (typeOf (.ref e)) cls := fun _ _ _ _ keep q => wpAny_typeOf_ref (keep _ _ getA) (by rw [zA.1]; exact q)
        have answer := PySem.W.exm_one (M := model X.prog X.w) (JA.kIn) type_ asks
        have named : ∀ {Q E : Value → Shared → Prop}, Q k.cl { t0 with heap := hA } → wpAny (model X.prog X.w) (X.A.mark (some (.ref e))) (eval (.Name x p1) X.env) Q E { t0 with heap := hA } := fun {Q E} q => by
          obtain ⟨glob, nodbg, told | ⟨blank, boots, noname⟩⟩ := known
          · exact ld_glob (X := X.suite e ((e, oA) :: (X.pn ++ pins))) SA glob told q nodbg
          · exact ld_blt (X := X.suite e ((e, oA) :: (X.pn ++ pins))) SA glob blank boots q noname nodbg
        refine named (answer.here ?_)
        cases hit with
        | false => exact (next (no rfl) : wpAny _ X.A (handleBy (.ref e) X.env hds) _ _ _)
        | true =>
          refine codeAny_handlers_suite_as (HandSPX.lands_againZ flA fun hB flB upB => ?_)
          have JB : Inv X pins σE HE { t0 with heap := hB } := J1.landed base flB.1 ((upto.trans upA).trans upB) oss gens
          obtain ⟨oB, vB, getB, zB, dataB⟩ := flB.there
          have SB := JB.suite getB dataB noE offL offF
          refine store_ok (X := X.suite e ((e, oB) :: (X.pn ++ pins))) (v := .ref e) SB nd slot (.inl own) rfl (fun t5 SC => ?_) (.inr own)
          refine wpAny_mono ((suite e oB cls d (X.pn ++ pins) zB ⟨_, dataB⟩).run [] t5 _ HE _ SC (yes rfl e noE)) (fun fl t6 done => ?_) (fun _ _ z => False.elim z)
          have drop : ∀ {σ6 : L2.St} {H6 : Hp} {Q : Shared → Prop}, Inv (X.suite e ((e, oB) :: (X.pn ++ pins))) [] σ6 H6 t6 → (∀ t7, Inv X pins (σ6.set k.sl none) H6 t7 → Q t7) →
              wpAny (model X.prog X.w) X.A (do bindName X.env n .none; unbindBehindTheSuite X.env n p2) (fun _ t7 => Q t7) X.xe t6 := fun {_ _ _} S6 q => gone_ok (S6.unsuite okX) nd slot own q
          cases fl with
          | ret u =>
            obtain ⟨v6, _, _, S6, r6, q6⟩ := done
            exact drop S6 fun _ J7 => ⟨_, _, _, J7, r6, q6⟩
          | next =>
            obtain ⟨_, _, S6, q6⟩ := done
            exact drop S6 fun _ J7 => ⟨_, _, J7, q6⟩
          | brk =>
            obtain ⟨_, _, S6, q6⟩ := done
            exact drop S6 fun _ J7 => ⟨_, _, J7, q6⟩
          | cont =>
            obtain ⟨_, _, S6, q6⟩ := done
            exact drop S6 fun _ J7 => ⟨_, _, J7, q6⟩
    exact walk all wish
  · cases fl with
    | ret u =>
      obtain ⟨v1, _, _, J1, r1, q1⟩ := good
      exact ⟨v1, _, _, J1.ofTry okX, r1, q1⟩
    | next =>
      obtain ⟨_, _, J1, q1⟩ := good
      exact wpAny_execs_nil ⟨_, _, J1.ofTry okX, q1⟩
    | brk =>
      obtain ⟨_, _, J1, q1⟩ := good
      exact ⟨_, _, J1.ofTry okX, q1⟩
    | cont =>
      obtain ⟨_, _, J1, q1⟩ := good
      exact ⟨_, _, J1.ofTry okX, q1⟩
end
end G

set_option Elab.async false
set_option maxRecDepth 100000
set_option pp.maxSteps 300
namespace G
open PySem L2 PySem.Spec PyProof.Rows LamX
/-! ### _law_told -/
abbrev sTo : Stmt := top 25
/-- an error of the class at C with the field f, told under the name x -/
def Told1 (K : PySem.W.Frag) (C : Addr) (f x : Str) (Q : VK) : XK := fun cls d H' => cls = .ref C ∧ ∃ (dd : Addr) (v : V) (dt : PyData), d = some dd ∧ H' dd = some (.xd [(f, v)]) ∧ Dq K H' v dt ∧ Rp dt ∧
  ∀ (p : Addr) (H2 : Hp), Same H' H2 → SqT K H2 p [.str x, .str dt.shown] → Q (.ref p) H2
def TTt (K : PySem.W.Frag) (CT CN : Addr) : (XK → Hp → VK → Prop) → Hp → VK → Prop := fun tl H Q =>
  tl (fun cls d H' => Told1 K CT "place" "tables" Q cls d H' ∨ Told1 K CN "value" "number" Q cls d H') H
    (fun x H1 => ∃ (a C dx : Addr) (fs : List (Str × V)) (v : V), x = .ref a ∧ H1 a = some (.ins C dx fs) ∧ Cls K C ∧ NoAttr K C "tables" ∧ fs.lookup ("tables" : Str) = some v ∧ Q v H1)
theorem scTo : FnScope ["call", "e"] ["call"] (defScope sTo) := ⟨rfl, rfl, rfl, by decide +kernel, rfl, by decide +kernel, by decide +kernel⟩
/-- a wish may count on the number of slots -/
theorem takes_len {X : Cx} {W : WX} (tk : Takes X W) : Takes X (fun cls d σ H => σ.length = X.N.length → W cls d σ H) := by
  rintro u s' ⟨a, B, sI, pins, σ, H, cls, d, e, I, nb, up, sky, na, os, ag, w⟩
  exact tk u s' ⟨a, B, sI, pins, σ, H, cls, d, e, I, nb, up, sky, na, os, ag, w I.len⟩
theorem two_set {α : Type} {l : List α} {x : α} (h : l.length = 2) : (l.set 1 x)[1]? = some x := by
  match l, h with
  | [a, b], _ => rfl
/-- what catching the two classes needs -/
structure XTwo (K : PySem.W.Frag) (mg : Str → Option Value) (CT CN : Addr) : Prop where
  atT : mg "BadTables" = some (.ref CT)
  atN : mg "BadNumber" = some (.ref CN)
  xT : XfC K CT
  xN : XfC K CN
  noT : PySem.W.findIn K (.ref CT) "place" = some none
  noN : PySem.W.findIn K (.ref CN) "value" = some none
  eTT : PySem.W.exmOne K (.ref CT) (.ref CT) = some true
  eNT : PySem.W.exmOne K (.ref CN) (.ref CT) = some false
  eNN : PySem.W.exmOne K (.ref CN) (.ref CN) = some true
theorem told_gives2 {X : Cx} {CT CN g : Addr} {cdg : Value} {k : Nat} {qn : Str} (T : TxU X.mg) (hg : X.A.guards = some []) (hr : Room (k + 1) X.A) (Z : XTwo X.K X.mg CT CN) :
    GivesTo X ["call", "e"] "_law_told" (defScope sTo) g cdg (defBody sTo) "call" qn (TTt X.K CT CN) := by
  intro fL cL s0 H0 QQ told runs hcode hh
  have hr0 := hr.deeper (envOfC "_law_told" (defScope sTo) s0.heap.objs.size g cdg)
  have h64 := hu64 hr0
  let Y : Cx := (cxOf C8.CX0 X.prog X.w X.K X.mg X.base ["call", "e"] "_law_told" (defScope sTo) g cdg X.A X.stack s0 H0 C8.E0).nox
  refine ⟨_, pss_one (ps_try_cls (tb := fun W D σ H => ∃ E1 : XK, (∀ cls d σ' H', E1 cls d H' → σ'.length = 2 → W cls d σ' H') ∧ σ[0]? = some (some (.ref fL)) ∧ H cL = some (CodeO cL qn) ∧
      told E1 H (fun x H1 => ∃ (a C dx : Addr) (fs : List (Str × V)) (v : V), x = .ref a ∧ H1 a = some (.ins C dx fs) ∧ Cls X.K C ∧ NoAttr X.K C "tables" ∧ fs.lookup ("tables" : Str) = some v ∧ D.rt v H1))
    rfl rfl scTo.nd LamX.takes0 (fun W pn xe tk _ => ?_)
    (.more (k := ⟨.ref CT, 1, fun a cls d => tRet (tTup (tCons (tC (.str "tables")) (tCons (tCB (rRepr X.K) (tCons (tXf a cls d CT "place" (tVar 1)) tNil)) tNil)))⟩) ⟨rfl, by decide, .inl Z.atT⟩ rfl rfl (fun a oe cls d pn hz hf => ?_)
    (.more (k := ⟨.ref CN, 1, fun a cls d => tRet (tTup (tCons (tC (.str "number")) (tCons (tCB (rRepr X.K) (tCons (tXf a cls d CN "value" (tVar 1)) tNil)) tNil)))⟩) ⟨rfl, by decide, .inl Z.atN⟩ rfl rfl (fun a oe cls d pn hz hf => ?_) .none))), ?_⟩
  · refine ⟨fun pins s σ H D I h => ?_⟩
    obtain ⟨E1, hW, w1, w2, w3⟩ := h
    exact (pss_one (ps_ret (pe_fld (runs _ pn xe E1 _ _ (takes_len tk) hW) (by rfl)))).run pins s σ H D I ⟨w1, w2, w3⟩
  · exact pss_one (ps_ret (pe_tup (pa_cons pe_str (pa_cons (pe_callB (X := Y.suite a ((a, oe) :: pn)) (call_repr (X := Y.suite a ((a, oe) :: pn)) (by exact hg) (by exact h64)) (by rfl) T.repr bt_repr (pa_cons (pe_xf Z.xT Z.noT hz hf (pv 1)) pa_nil)) pa_nil))))
  · exact pss_one (ps_ret (pe_tup (pa_cons pe_str (pa_cons (pe_callB (X := Y.suite a ((a, oe) :: pn)) (call_repr (X := Y.suite a ((a, oe) :: pn)) (by exact hg) (by exact h64)) (by rfl) T.repr bt_repr (pa_cons (pe_xf Z.xN Z.noN hz hf (pv 1)) pa_nil)) pa_nil))))
  · refine ⟨_, ?_, rfl, hcode, hh⟩
    rintro cls d σ' H' (⟨rfl, dd, v, dt, rfl, e1, hd, rp, q⟩ | ⟨rfl, dd, v, dt, rfl, e1, hd, rp, q⟩) l2
    · refine ⟨true, Z.eTT, fun _ a ha => ?_, fun z => nomatch z⟩
      exact ⟨_, two_set l2, rfl, rfl, dd, [("place", v)], v, rfl, e1, by simp [List.lookup], v, dt, rfl, hd, rp.sh, rp.len, rp.dep, by show 2 ≤ sizeLine; decide, fun p hp => q p _ (same_new hp) (SqT.of upd_same)⟩
    · refine ⟨false, Z.eNT, (fun z => nomatch z), fun _ => ?_⟩
      refine ⟨true, Z.eNN, fun _ a ha => ?_, fun z => nomatch z⟩
      exact ⟨_, two_set l2, rfl, rfl, dd, [("value", v)], v, rfl, e1, by simp [List.lookup], v, dt, rfl, hd, rp.sh, rp.len, rp.dep, by show 2 ≤ sizeLine; decide, fun p hp => q p _ (same_new hp) (SqT.of upd_same)⟩
end G

set_option Elab.async false
set_option maxRecDepth 100000
set_option pp.maxSteps 300
namespace G
open PySem L2 PySem.Spec PyProof.Rows LamX
/-! ### plain values -/
inductive Sc : V → PyData → Prop
  | int (i : Int) (h : i.natAbs ≤ 1000) : Sc (.int i) (.int i)
  | non : Sc .non .none
  | bl (b : Bool) : Sc (.bl b) (.bool b)
  | nil : Sc (.str "0") (.str "0")
theorem Sc.dp {K : PySem.W.Frag} {H : Hp} {v : V} {d : PyData} (h : Sc v d) : Dp K H v d := by
  cases h with
  | int i h => exact .int i
  | non => exact .non
  | bl b => exact .bl b
  | nil => exact .str _
theorem Sc.dq {K : PySem.W.Frag} {H : Hp} {v : V} {d : PyData} (h : Sc v d) : Dq K H v d := .inl h.dp
theorem nice_rp {W k : Nat} {d : PyData} (h : Nice W k d) (hW : W ≤ 7000) (hk : k ≤ 50) : Rp d := by
  have l := h.len
  have dd := h.dp
  have s : 202 * 7000 + 200 ≤ sizeLine := by decide
  exact ⟨h.sh, by omega, by omega⟩
theorem Sc.nice {v : V} {d : PyData} (h : Sc v d) : Nice 20 1 d := by
  cases h with
  | int i h => exact (nice_int (by omega)).mono (by decide) (by decide)
  | non => exact ⟨by decide +kernel, by decide +kernel, by decide +kernel, by decide +kernel⟩
  | bl b => cases b <;> exact ⟨by decide +kernel, by decide +kernel, by decide +kernel, by decide +kernel⟩
  | nil => exact ⟨by decide +kernel, by decide +kernel, by decide +kernel, by decide +kernel⟩
theorem Sc.rp {v : V} {d : PyData} (h : Sc v d) : Rp d := nice_rp h.nice (by decide) (by decide)
theorem ok_of (s : String) : PyData.strOk (Str.ofString s) = true := by
  rw [Str.ofString_eq_toList]
  unfold PyData.strOk
  rw [← Array.all_toList, List.all_eq_true]
  intro c hc
  obtain ⟨d, _, rfl⟩ := List.mem_map.mp (show c ∈ s.toList.map Char.toNat by simpa using hc)
  rw [decide_eq_true_eq]
  have v : d.val.toNat < 0xd800 ∨ 0xdfff < d.val.toNat ∧ d.val.toNat < 0x110000 := d.valid
  show d.val.toNat < 0x110000
  omega
theorem Sc.okS {v : V} {d : PyData} (h : Sc v d) : PyData.strOk d.shown = true := by
  cases h with
  | int i h => exact ok_of _
  | non => exact ok_of _
  | bl b => cases b <;> exact ok_of _
  | nil => decide +kernel
theorem lay_two {x y : Str} (hx : PyData.strOk x = true) (hy : PyData.strOk y = true) : (PyData.tuple [.str x, .str y]).canLay0 = true := by simp [PyData.canLay0, PyData.canLayAll0, hx, hy]
theorem shaped_two {x y : Str} (hx : PyData.strOk x = true) (hy : PyData.strOk y = true) : SeqAt.shaped (.tuple [.str x, .str y]) = true := by
  unfold SeqAt.shaped
  rw [lay_two hx hy, Bool.true_and, decide_eq_true_eq]
  simp [PyData.depth, PyData.depthAll]
/-- one of a written list of plain values -/
def AllSc (xs : List V) : Prop := ∀ v ∈ xs, ∃ d, Sc v d
theorem allSc_nil : AllSc [] := fun _ h => nomatch h
theorem allSc_cons {v : V} {xs : List V} {d : PyData} (h : Sc v d) (t : AllSc xs) : AllSc (v :: xs) := fun u hu => by
  rcases List.mem_cons.mp hu with e | e
  · rw [e]
    exact ⟨d, h⟩
  · exact t u e
/-- the first of those that a test picks -/
theorem filter_head {p : Nat → Bool} {n i : Nat} {r : List Nat} (h : (List.range n).filter p = i :: r) : i < n ∧ p i = true ∧ ∀ j, j < i → p j = false := by
  have hf : (List.range n).find? p = some i := by
    rw [← List.head?_filter, h]
    rfl
  obtain ⟨h1, j, hj, e, all⟩ := List.find?_eq_some_iff_getElem.mp hf
  rw [List.length_range] at hj
  rw [List.getElem_range] at e
  subst e
  refine ⟨hj, h1, fun k hk => ?_⟩
  have q := all k hk
  rw [List.getElem_range] at q
  cases z : p k with
  | true =>
    rw [z] at q
    cases q
  | false => rfl
theorem filter_none {p : Nat → Bool} {n : Nat} (h : (List.range n).filter p = []) : ∀ j, j < n → p j = false := fun j hj => by
  have q := List.filter_eq_nil_iff.mp h j (List.mem_range.mpr hj)
  cases z : p j with
  | true => exact absurd z q
  | false => rfl
theorem filter_snoc {p : Nat → Bool} {i : Nat} : (List.range (i + 1)).filter p = (List.range i).filter p ++ (if p i = true then [i] else []) := by
  rw [List.range_succ, List.filter_append]
  congr 1
  cases h : p i <;> simp [h]
theorem set_put {α : Type} : ∀ {xs : List α} {j : Nat} {y : α}, j < xs.length → xs.set j y = putAt xs j y
  | [], _, _, h => by simp at h
  | x :: xs, 0, y, _ => by simp [putAt]
  | x :: xs, j + 1, y, h => by
    have ih := set_put (xs := xs) (j := j) (y := y) (by simpa using h)
    simp only [List.set_cons_succ, ih, putAt, List.take_succ_cons, List.drop_succ_cons, List.cons_append]
section
variable {β : Type} {K : PySem.W.Frag} {F : Hp → V → β → Prop}
/-- a new list over a list that stays -/
theorem lcL_new (mono : Stays F) {a : Addr} {xs : List V} {j : Nat} {te : TE} {vs : List Nat} {σ : L2.St} {H1 : Hp} {Qd : Hp → Prop} {D : Addr} (hD : H1 D = none) (hx : SqL K H1 a xs) {ds : List β} (hl : ds.length = xs.length) (hz : ds.length ≤ 40000)
    (hw : ∀ x, wipe ((wipe σ vs).set j (some x)) vs = wipe σ vs)
    (he : ∀ (i : Nat) (x : V) (d : β) (H' : Hp) (Q' : VK), xs[i]? = some x → ds[i]? = some d → Same H1 H' → (∀ v H2, Same H' H2 → F H2 v d → Q' v H2) → te ((wipe σ vs).set j (some x)) H' Q')
    (q : ∀ (ys : List V) (H2 : Hp), Same H1 H2 → H2 D = some (.lst ys) → Paired (F H2) ys ds → Qd H2) :
    ∃ W : Nat → Nat → Hp → Prop, (∃ m, W 0 m (upd H1 D (.lst []))) ∧ ∀ i m H, W i m H →
      ((Itl K a).stop i H ∧ Qd H) ∨ ((Itl K a).go i H ∧ ∃ Nx : Hp → Prop, (∀ H', Nx H' → ∃ m', m' < m ∧ W (i + 1) m' H') ∧ ∀ x H', (Itl K a).yld i H x H' → gName j x (wipe σ vs) H' fun σ2 H2 => wipe σ2 vs = wipe σ vs ∧ tYes σ2 H2 fun b H3 =>
        if b = true then te σ2 H3 fun y H4 => ∃ acc, H4 D = some (.lst acc) ∧ acc.length < sizeLine ∧ Nx (upd H4 D (.lst (acc ++ [y]))) else Nx H3) := by
  refine lc_list (xs := xs) (Tn F H1 ds D) ⟨hD, same_new hD, [], upd_same, .nil⟩ (fun i H _ p => p.2.1.seq hx) (fun i x H hi p => ?_) (fun H p => ?_)
  · obtain ⟨d, hd⟩ := get_ds hl (List.getElem?_eq_some_iff.mp hi).1
    exact ⟨hw x, tn_turn mono p hd hz fun H' Q' s f => he i x d H' Q' hi hd s f⟩
  · obtain ⟨p1, p2, ys, p3, p4⟩ := p
    rw [← hl, List.take_length] at p4
    exact q ys H p2 p3 p4
end
/-- copies of rows, in a list at D: each a list of its own, new to H0 -/
structure Rows (H0 H : Hp) (D : Addr) (zs : List Addr) (t : List (List Int)) : Prop where
  sm : Same H0 H
  at_ : H D = some (.lst (zs.map V.ref))
  len : zs.length = t.length
  row : ∀ (j : Nat) (z : Addr) (r : List Int), zs[j]? = some z → t[j]? = some r → H z = some (.lst (r.map V.int))
  nw : ∀ z ∈ zs, H0 z = none ∧ z ≠ D
  nwD : H0 D = none
  inj : ∀ (j k : Nat) (z : Addr), zs[j]? = some z → zs[k]? = some z → j = k
theorem rows_nil {H0 : Hp} {D : Addr} (h : H0 D = none) : Rows H0 (upd H0 D (.lst [])) D [] [] :=
  ⟨same_new h, upd_same, rfl, (fun _ _ _ h => by simp at h), (fun _ h => nomatch h), h, (fun _ _ _ h => by simp at h)⟩
theorem rows_more {H0 H : Hp} {D l : Addr} {zs : List Addr} {t : List (List Int)} {r : List Int} (R : Rows H0 H D zs t) (hl : H l = none) : Rows H0 (upd (upd H l (.lst (r.map V.int))) D (.lst (zs.map V.ref ++ [V.ref l]))) D (zs ++ [l]) (t ++ [r]) := by
  have nlD : l ≠ D := fun z => by rw [z, R.at_] at hl; cases hl
  have h0l : H0 l = none := by
    cases e : H0 l with
    | none => rfl
    | some o =>
      rw [R.sm _ _ e] at hl
      cases hl
  have old : ∀ {j z}, zs[j]? = some z → z ≠ l := fun {j z} h e => by
    obtain ⟨r0, hr0⟩ : ∃ r0, t[j]? = some r0 := ⟨t[j]'(by rw [← R.len]; exact (List.getElem?_eq_some_iff.mp h).1), List.getElem?_eq_getElem _⟩
    have q := R.row j z r0 h hr0
    rw [e, hl] at q
    cases q
  have len := R.len
  refine ⟨fun b o e => ?_, ?_, by rw [List.length_append, List.length_append, R.len]; rfl, fun j z r' hz hr => ?_, fun z hz => ?_, R.nwD, fun j k z hj hk => ?_⟩
  · rw [upd_ne (ne_of_none e R.nwD), upd_ne (ne_of_none e h0l)]
    exact R.sm _ _ e
  · rw [upd_same, List.map_append]
    rfl
  · by_cases hlt : j < zs.length
    · rw [List.getElem?_append_left hlt] at hz
      rw [List.getElem?_append_left (by rw [← len]; exact hlt)] at hr
      rw [upd_ne (R.nw z (List.mem_of_getElem? hz)).2, upd_ne (old hz)]
      exact R.row j z r' hz hr
    · rw [List.getElem?_append_right (by omega)] at hz
      rw [List.getElem?_append_right (by omega)] at hr
      have ej : j - zs.length = 0 := by
        have := (List.getElem?_eq_some_iff.mp hz).1
        simp at this
        omega
      have ej2 : j - t.length = 0 := by omega
      rw [ej] at hz
      rw [ej2] at hr
      simp at hz hr
      subst hz hr
      rw [upd_ne nlD, upd_same]
  · rcases List.mem_append.mp hz with q | q
    · exact R.nw z q
    · rw [List.mem_singleton.mp q]
      exact ⟨h0l, nlD⟩
  · have one : ∀ {j}, (zs ++ [l])[j]? = some z → (j < zs.length ∧ zs[j]? = some z) ∨ (j = zs.length ∧ z = l) := fun {j} h => by
      by_cases hlt : j < zs.length
      · rw [List.getElem?_append_left hlt] at h
        exact .inl ⟨hlt, h⟩
      · rw [List.getElem?_append_right (by omega)] at h
        have ej : j - zs.length = 0 := by
          have := (List.getElem?_eq_some_iff.mp h).1
          simp at this
          omega
        rw [ej] at h
        simp at h
        exact .inr ⟨by omega, h.symm⟩
    rcases one hj with ⟨a1, a2⟩ | ⟨a1, a2⟩
    · rcases one hk with ⟨b1, b2⟩ | ⟨b1, b2⟩
      · exact R.inj j k z a2 b2
      · exact absurd b2 (old a2)
    · rcases one hk with ⟨b1, b2⟩ | ⟨b1, b2⟩
      · exact absurd a2 (old b2)
      · omega
/-- an entry is written -/
theorem rows_set {H0 H : Hp} {D z : Addr} {zs : List Addr} {t : List (List Int)} {b c : Nat} {r : List Int} {e : Int} (R : Rows H0 H D zs t) (hz : zs[b]? = some z) (hr : t[b]? = some r) :
    Rows H0 (upd H z (.lst ((r.map V.int).set c (.int e)))) D zs (t.set b (r.set c e)) := by
  have hb := (List.getElem?_eq_some_iff.mp hr).1
  have mz := R.nw z (List.mem_of_getElem? hz)
  refine ⟨fun b' o e' => ?_, ?_, by rw [List.length_set]; exact R.len, fun j z' r' hz' hr' => ?_, R.nw, R.nwD, R.inj⟩
  · rw [upd_ne (ne_of_none e' mz.1)]
    exact R.sm _ _ e'
  · rw [upd_ne mz.2.symm]
    exact R.at_
  · by_cases hj : j = b
    · subst hj
      rw [hz] at hz'
      cases hz'
      rw [List.getElem?_set_self hb] at hr'
      cases hr'
      rw [upd_same, List.map_set]
    · rw [List.getElem?_set_ne (Ne.symm hj)] at hr'
      have ne : z' ≠ z := fun q => hj (R.inj j b z' hz' (by rw [q]; exact hz))
      rw [upd_ne ne]
      exact R.row j z' r' hz' hr'
end G

set_option Elab.async false
set_option maxRecDepth 100000
/-! The law's own call where the law makes lambdas: its code's table is tracked. -/
namespace G
open PySem L2 PySem.Spec PyProof.Rows LamX
section
variable {P : Program} {w : World} {K : PySem.W.Frag} {mg : Str → Option Value} {base : Heap} {k : Nat} {f : Addr} {ps N : List Str} {sp : Sp}
/-- a def that lets no exception out, its code's value told -/
theorem okGat {x qual : Str} {st : Stmt} {oc kV doc pm cd ct : Value} {od an : Option Addr} {osl : Array (Option Value)}
    (lk : K.lookup f = some ⟨oc, od, .func (PySem.W.fnOf x qual (defArgs st) (defBody st) (defScope st) .none kV doc pm an cd ct), osl⟩) (hc : PySem.W.codeIn K cd qual = true) (S : FnScope N ps (defScope st))
    (len : ∀ vs H Q E, sp vs H Q E → vs.length = ps.length)
    (body : ∀ (A : Around) (fr : List Env) (s : Shared) (H : Hp) (vs : List V) (Q : VK) (E : XK),
      A.guards = some [] → Room k (A.deeper (envOfC qual (defScope st) s.heap.objs.size f cd)) → sp vs H Q E →
      ∃ t, PSs (cxOf CX0 P w K mg base N qual (defScope st) f cd A fr s H E).nox (defBody st) t ∧ t { nx := fun _ H' => Q .non H', rt := Q } (start N vs) H) :
    FnG P w K mg base CX0 (k + 1) f (PySem.W.fnOf x qual (defArgs st) (defBody st) (defScope st) .none kV doc pm an cd ct) ps sp := by
  refine ⟨len, fun A fr s H ar us vs Q E hg hr env bt rel hsp => ?_⟩
  have inK : K.In s.heap := env.mod.kin.keeps fun b o e => (env.bs b o e).1
  have room := env.mod.nolimit.keeps fun b o e => (env.bs b o e).1
  have kinds : ∀ y ∈ ps.zip us, (defScope st).names.lookup y.1 = some .local ∨
      ((defScope st).names.lookup y.1 = some .cell ∧
        ((cellsFrom (s.heap.objs.size + 1) (defScope st).names []).lookup y.1).isSome = true) := by
    rintro ⟨n, v⟩ hy
    cases S.par n (List.of_mem_zip hy).1 with
    | inl q => exact .inl q
    | inr q => exact .inr ⟨q, PySem.W.cellsFrom_some _ _ _ (.inl q)⟩
  refine codeAny_call_function hr.depth (inK _ _ lk) rfl S.co S.gen rfl (PySem.W.codeRec_of inK hc) (bt _ _ _ _ (wpAny_newFunctionEnv_cells S.kind kinds fun e1 h1 s1 inC => ?_))
  subst h1
  refine ⟨room.keeps inC.toInCall.keep, codeAny_func ?_⟩
  obtain ⟨t, pss, rd⟩ := body A fr s H vs Q E hg (hr.deeper _) hsp
  have J := inv_start (CX := CX0) (P := P) (mg := mg) (base := base) (E := E) S hr.hd env (len _ _ _ _ hsp) rel inC
  refine wpAny_mono (pss.nox.run [] s1 (start N vs) H _ J rd) (fun fl s2 z => ?_) fun e s2 z => z
  cases fl with
  | ret u =>
    obtain ⟨v, σ2, H2, I2, r2, q2⟩ := z
    exact ⟨v, H2, I2.os, I2.bare, I2.base, I2.hok, r2, q2⟩
  | next =>
    obtain ⟨σ2, H2, I2, q2⟩ := z
    exact ⟨.non, H2, I2.os, I2.bare, I2.base, I2.hok, rfl, q2⟩
  | brk =>
    obtain ⟨_, _, _, no⟩ := z
    exact no.elim
  | cont =>
    obtain ⟨_, _, _, no⟩ := z
    exact no.elim
end
section
variable {P : Program} {w : World} {K : PySem.W.Frag} {mg mb : Str → Option Value} {k : Nat} {fa a c Pt : Addr} {fd : FuncData} {x : Str} {sp : Sp} {s : Shared} {us : List Value} {ns : List Int}
/-- the builtins' module, as the head tells of it -/
def BMod (mg : Str → Option Value) (h : Heap) : Prop := ∃ (bm : Addr) (ob : Obj), mg "__builtins__" = some (.ref bm) ∧ bm ≠ builtinsNs ∧ h.get? bm = some ob ∧ ob.cls = .type "module" ∧ ob.dict = some builtinsNs ∧ ob.data = .plain
theorem lawT_from {H : Hp} (inK : K.In s.heap) (gl : s.heap.Ns mainGlobals mg) (bl : s.heap.Ns builtinsNs mb)
    (bb : ∀ x : Str, x ≠ "__name__" → mb x = bootBuiltins x) (room : s.heap.NoLimit) (g0 : s.gens = #[]) (bmod : BMod mg s.heap)
    (sc : s.heap.get? a = some { cls := .type "list", data := .seq us.toArray }) (tb : s.heap.get? Pt = some { cls := .none, data := .fields #[] }) (cK : PySem.W.codeHdIn K c Pt = true) (nP : K.lookup Pt = none) (hr : Room k callerA)
    (F : ∀ base : Heap, K.In base → base.Ns mainGlobals mg → TabB base mg c Pt → FnG P w K mg base CX0 k fa fd [x] sp)
    (bt : ∀ (s : Shared) (u : Value), BindsTo s fd ⟨[u], []⟩ [(x, u)])
    (only : ∀ b, b ≠ Pt → H b = none ∨ ∃ o xs, H b = some (.frz o (.lst xs))) (hP : H Pt = some (.tbl #[])) (at_ : ∀ b, H b ≠ none → b = a ∨ b = Pt) (out : H a ≠ none → K.lookup a = none) (ok : HOk P w H s.heap)
    (hq : sp [.ref a] H (fun v _ => v = .bl true) fun _ _ _ => False) : LawEnd P fa a w s := by
  have low : ∀ {b : Addr} {o : Obj}, s.heap.get? b = some o → H b = none → (hidT s.heap H).get? b = some o :=
    fun h1 h2 => hidT_get h1 h2
  have unlike : ∀ {b : Addr} {o : Obj}, s.heap.get? b = some o → (∀ vs n, o.data ≠ .seq vs n) → o.data ≠ .fields #[] → H b = none := fun {b o} h1 h2 h3 => by
    refine Classical.byContradiction fun ne => ?_
    rcases at_ b ne with e | e
    · rw [e, sc] at h1
      cases h1
      exact h2 _ _ rfl
    · rw [e, tb] at h1
      cases h1
      exact h3 rfl
  have dicts : ∀ {b : Addr} {m : Str → Option Value}, s.heap.Ns b m → (hidT s.heap H).Ns b m := by
    rintro b m ⟨o, es, ep, h1, h2, h3⟩
    exact ⟨o, es, ep, low h1 (unlike h1 (fun vs n z => by rw [h2] at z; cases z) (fun z => by rw [h2] at z; cases z)), h2, h3⟩
  have inB : K.In (hidT s.heap H) := fun b o e => low (inK b o e) (by
    refine Classical.byContradiction fun ne => ?_
    rcases at_ b ne with z | z
    · rw [z] at e ne
      rw [out ne] at e
      cases e
    · rw [z, nP] at e
      cases e)
  obtain ⟨mc, l1, l2⟩ := room
  have md : Mod K mg (hidT s.heap H) := ⟨inB, dicts gl, ⟨mb, dicts bl, bb⟩, mc, dicts l1, l2⟩
  have none_in : ∀ b : Addr, b ∉ ([] : List Addr) := fun b z => nomatch z
  have env : Env0 P w K mg (hidT s.heap H) callerA [] s H :=
    ⟨rfl, md, fun b o e => of_hidT e, Nat.le_of_eq (hidT_size _ _), trivial, fun b z => (none_in b z).elim, ok, .of_eq g0⟩
  have gP : mainGlobals ≠ Pt := fun z => by
    obtain ⟨o, es, ep, e, hd, _⟩ := gl
    rw [z, tb] at e
    cases e
    cases hd
  have TB : TabB (hidT s.heap H) mg c Pt := by
    refine ⟨PySem.W.codeHd_of_K inB cK, ?_, gP⟩
    obtain ⟨bm, ob, b1, b2, b3, b4, b5, b6⟩ := bmod
    refine ⟨bm, ob, b1, b2, fun z => ?_, fun z => ?_, low b3 (unlike b3 (fun vs n z => by rw [b6] at z; cases z) (fun z => by rw [b6] at z; cases z)), b4, b5, b6⟩
    · obtain ⟨o, es, ep, e, hd, _⟩ := gl
      rw [z, e] at b3
      cases b3
      rw [hd] at b6
      cases b6
    · rw [z, tb] at b3
      cases b3
      cases b6
  refine codeAny_mono ((F _ inB (dicts gl) TB).go callerA [] s H ⟨[.ref a], []⟩ [.ref a] [.ref a] _ _ rfl hr env (bt s (.ref a)) (.cons rfl .nil) hq) fun r s2 z => ?_
  cases r with
  | error e => exact z.elim
  | ok fl =>
    cases fl with
    | next => exact z.elim
    | brk => exact z.elim
    | cont => exact z.elim
    | ret u =>
      obtain ⟨v, H2, h1, h2, un, ok2, rv, ev⟩ := z
      have ev' : v = .bl true := ev
      rw [ev'] at rv
      have ru : u = Value.bool true := rv
      rw [ru]
      have kept : ∀ b o, b ≠ Pt → s.heap.get? b = some o → s2.heap.get? b = some o := fun b o ne e => by
        rcases only b ne with q | ⟨ob, xs, q⟩
        · exact un.keep b o e q (none_in b) (none_in b)
        · have q1 := (ok b _ q).1
          have q2 := (ok2 b _ (un.frzs b ob _ q)).1
          rw [e] at q1
          cases q1
          exact q2
      obtain ⟨more, hm⟩ := un.tbls Pt #[] hP
      have grown : s2.heap.get? Pt = some { cls := .none, data := .fields (#[] ++ more) } := ok2 Pt _ hm
      refine ⟨rfl, ⟨fun b o e => ?_, fun b o e => ?_⟩, h1, h2⟩
      · by_cases hb : b = Pt
        · subst hb
          rw [tb] at e
          cases e
          exact .inr (.inl ⟨((PySem.W.codeHd_of_K inK cK).tab tb).isCodeTable, rfl, #[], more, rfl, grown⟩)
        · exact .inl (kept b o hb e)
      · by_cases hb : b = Pt
        · subst hb
          exact ⟨_, grown⟩
        · exact ⟨o, kept b o hb e⟩
theorem lawT_go (inK : K.In s.heap) (gl : s.heap.Ns mainGlobals mg) (bl : s.heap.Ns builtinsNs mb)
    (bb : ∀ x : Str, x ≠ "__name__" → mb x = bootBuiltins x) (room : s.heap.NoLimit) (g0 : s.gens = #[]) (bmod : BMod mg s.heap)
    (sc : s.heap.get? a = some { cls := .type "list", data := .seq us.toArray }) (tb : s.heap.get? Pt = some { cls := .none, data := .fields #[] }) (cK : PySem.W.codeHdIn K c Pt = true) (nP : K.lookup Pt = none)
    (hi : IntsAre us ns) (hl : ns.length ≤ sizeLine) (hr : Room k callerA)
    (F : ∀ base : Heap, K.In base → base.Ns mainGlobals mg → TabB base mg c Pt → FnG P w K mg base CX0 k fa fd [x] sp)
    (bt : ∀ (s : Shared) (u : Value), BindsTo s fd ⟨[u], []⟩ [(x, u)])
    (hq : ∀ H : Hp, H Pt = some (.tbl #[]) → SqL K H a (ns.map V.int) → sp [.ref a] H (fun v _ => v = .bl true) fun _ _ _ => False) : LawEnd P fa a w s := by
  have rel := vals_ints hi
  have ln := hi.length
  have ne : Pt ≠ a := fun z => by
    rw [z, sc] at tb
    cases tb
  have e0 : ∀ {b : Addr}, b ≠ Pt → upd (fun _ => none) Pt (.tbl #[]) b = none := fun h => upd_ne h
  have okP : ∀ (G : Hp) (b : Addr) (u : HO), upd (fun _ => none) Pt (.tbl #[]) b = some u → ObjOk P w G s.heap b u := fun G b u z => by
    by_cases hb : b = Pt
    · subst hb
      rw [upd_same] at z
      cases z
      exact tb
    · rw [e0 hb] at z
      cases z
  cases lk : K.lookup a with
  | some o =>
    have e := inK a o lk
    rw [sc] at e
    cases e
    refine lawT_from (H := upd (fun _ => none) Pt (.tbl #[])) inK gl bl bb room g0 bmod sc tb cK nP hr F bt (fun b hb => .inl (e0 hb)) upd_same (fun b z => ?_) (fun z => (z (e0 ne.symm)).elim)
      (okP _) (hq _ upd_same (.inr ?_))
    · exact .inr (Classical.byContradiction fun hb => z (e0 hb))
    · exact ⟨_, us.toArray, _, lk, rfl, rfl, rfl, by rw [List.size_toArray, ln]; exact hl, by simpa using rel⟩
  | none =>
    let ob : Obj := { cls := .type "list", data := .seq us.toArray }
    have e1 : ∀ {b : Addr}, b ≠ a → upd (upd (fun _ => none) Pt (.tbl #[])) a (.frz ob (.lst (ns.map V.int))) b = upd (fun _ => none) Pt (.tbl #[]) b := fun h => upd_ne h
    refine lawT_from (H := upd (upd (fun _ => none) Pt (.tbl #[])) a (.frz ob (.lst (ns.map V.int)))) inK gl bl bb room g0 bmod sc tb cK nP hr F bt (fun b hb => ?_) (by rw [e1 ne, upd_same]) (fun b z => ?_) (fun _ => lk)
      (fun b u z => ?_) (hq _ (by rw [e1 ne, upd_same]) (.inl (.inr ⟨ob, upd_same⟩)))
    · by_cases h : b = a
      · subst h
        exact .inr ⟨_, _, upd_same⟩
      · rw [e1 h]
        exact .inl (e0 hb)
    · by_cases h : b = a
      · exact .inl h
      · rw [e1 h] at z
        exact .inr (Classical.byContradiction fun hb => z (e0 hb))
    · by_cases hb : b = a
      · subst hb
        rw [upd_same] at z
        cases z
        exact ⟨sc, by rw [List.length_map]; exact hl, us, _, rel, sc⟩
      · rw [e1 hb] at z
        exact okP _ b u z
end
/-- what of the law's own code the text has: its table's place, which is empty at the head -/
def OwnT (K : PySem.W.Frag) (fa c Pt : Addr) : Prop := ∃ (fd : FuncData) (oc e : Value) (od dd : Option Addr) (osl sl : Array (Option Value)) (vs : Array Value), K.lookup fa = some ⟨oc, od, .func fd, osl⟩ ∧ fd.code = .ref c ∧ K.lookup c = some ⟨e, dd, .fields vs, sl⟩ ∧ vs[11]? = some (.ref Pt)
/-- the goal that the head leaves -/
theorem walkGT {l : PySem.W.OpenLaw} {n k : Nat} {q : Program} {loose : List Str} {XP : (Str → Option Value) → Heap → Prop} {YP : World → Heap → Prop}
    {d : DefRec} {K : Params → PySem.W.Frag} {sp : World → Addr → Sp} {x : Str} (hn : l.most = some n) (n2 : n ≤ sizeLine)
    (hdf : d.params.defaults = []) (hr : Room k callerA) (hrec : ((recsOf q).any fun e => e.name == d.name) = true) (hY : ∀ (w : World) (h : Heap), YP w h → (K w.params).In h)
    (F : ∀ (w : World) (mg : Str → Option Value) (fa : Addr) (h : Heap), (K w.params).In h → h.Ns mainGlobals mg → mg d.name = some (.ref fa) →
      ∃ (fd : FuncData) (c Pt : Addr), (∀ (s : Shared) (u : Value), BindsTo s fd ⟨[u], []⟩ [(x, u)]) ∧ OwnT (K w.params) fa c Pt ∧ PySem.W.codeHdIn (K w.params) c Pt = true ∧ (K w.params).lookup Pt = none ∧
        (∀ base : Heap, (K w.params).In base → base.Ns mainGlobals mg → TabB base mg c Pt → FnG l.prog w (K w.params) mg base CX0 k fa fd [x] (sp w Pt)))
    (hq : ∀ (w : World) (H : Hp) (a Pt : Addr) (ns : List Int), ns.length ≤ n → H Pt = some (.tbl #[]) → SqL (K w.params) H a (ns.map V.int) →
      sp w Pt [.ref a] H (fun v _ => v = .bl true) fun _ _ _ => False) :
    PySem.W.WalkO q loose XP YP l.row.toRowW d [] (fun f vs => PySem.call f vs) := by
  refine Att.attach_callB hn hdf fun w s₀ s mg mb fa o pm cd doc a us ns gr Y _ _ _ hm sc hi hl _ g0 => ?_
  have inK := hY w _ Y
  obtain ⟨fd, c, Pt, bt, ⟨fd1, oc, e, od, dd, osl, sl, vs, k1, k3, k4, k5⟩, cK, nP, G⟩ := F w mg fa _ inK gr.T.g hm
  have tb : s.heap.get? Pt = some { cls := .none, data := .fields #[] } := by
    obtain ⟨dl, m1, m2⟩ := List.any_eq_true.mp hrec
    obtain ⟨b1, o1, fd2, c1, P1, h1, h2, h3, h4, h5, h6⟩ := gr.T.tab dl m1
    rw [beq_iff_eq.mp m2, hm] at h1
    cases h1
    have g1 := inK _ _ k1
    rw [g1] at h2
    cases h2
    cases h3
    rw [k3] at h4
    cases h4
    obtain ⟨⟨oc1, vc, e1, _, e3, e4⟩, hT⟩ := h6
    have g2 := inK _ _ k4
    rw [g2] at e1
    cases e1
    cases e3
    rw [k5] at e4
    cases e4
    exact hT
  exact lawT_go inK gr.T.g gr.T.b gr.T.builtins gr.T.nolimit g0 gr.T.bmain sc tb cK nP hi (Nat.le_trans hl n2) hr G bt
    fun H hP h => hq w H a Pt ns hl hP h
end G

set_option Elab.async false
set_option maxRecDepth 100000
set_option pp.maxSteps 300
namespace G
open PySem L2 PySem.Spec PyProof.Rows LamX
theorem lay_of_shaped {d : PyData} (h : SeqAt.shaped d = true) : d.canLay0 = true := SeqAt.canLay_of_shaped h
theorem ixN_at {len j : Nat} (lt : j < len) : ixN len (j : Int) = some j := by
  have a : (0 : Int) ≤ (j : Int) := by omega
  have b : (j : Int) < (len : Int) := by omega
  simp [ixN, a, b]
/-! ### _law_changed_right -/
abbrev sCR : Stmt := top 26
abbrev qCR : Str := (envOfC "_law_changed_right" (defScope sCR) 0 0 Value.none).qual ++ "<lambda>"
def rEqL0 (K : PySem.W.Frag) : R2 := fun x y H Q => ∃ (a b : Addr) (xs : List V), x = .ref a ∧ y = .ref b ∧ SqL K H a xs ∧ SqL K H b [] ∧ Q (.bl xs.isEmpty) H
theorem op_eqL0 {X : Cx} (hu : X.A.units + 64 < cLine) : OpR X (compareOp .Eq) (rEqL0 X.K) := by
  intro pins s σ H x y v u Q I rx ry h
  obtain ⟨a, b, xs, rfl, rfl, ha, hb, q⟩ := h
  obtain rfl : v = Value.ref a := rx
  obtain rfl : u = Value.ref b := ry
  obtain ⟨as, ra, pa, _⟩ := I.list ha
  obtain ⟨bs, rb, pb, _⟩ := I.list hb
  cases rb
  have room : X.A.units < cLine := by omega
  cases xs with
  | nil =>
    cases ra
    exact SeqAt.eq_listAt (e := fun _ => true) pa.isList pb.isList rfl room (fun j h1 _ => absurd h1 (by simp)) ⟨.bl true, H, I, rfl, q⟩
  | cons x xs =>
    cases ra
    exact SeqAt.eq_list_lengthsAt pa.isList pb.isList (by simp) room ⟨.bl false, H, I, rfl, q⟩
def rListOf (K : PySem.W.Frag) : List V → Hp → VK → Prop := fun xs H Q => ∃ p ys, xs = [V.ref p] ∧ (SqL K H p ys ∨ SqT K H p ys) ∧ ∀ l : Addr, H l = none → Q (V.ref l) (upd H l (.lst ys))
def spCR (K : PySem.W.Frag) (C : Addr) (TT : List (Addr × Str)) : Sp := fun vs H Q _ => ∃ (m x dx : Addr) (tv : V) (n : Nat) (ts : List (List (List Int))) (G : Hp) (T : Int), vs = [.ref m, tv, .ref x] ∧ Mst G H m T ∧ T ≤ 900000000 ∧ Tabs TT G ∧
  IsTabs K G tv ts ∧ IsFam K C G x dx n ts ∧ FamOk n ts ∧ ∀ (G' H' : Hp), ExtN G G' → Tabs TT G' → Mst G' H' m (T + 100) → Q (.bl true) H'
def DueIs (ts : List (List (List Int))) (n : Nat) (v1 v2 v3 v4 : V) (d1 d2 d3 d4 dt : PyData) : Prop :=
  (∃ a b c e : Nat, d1 = .int (a : Int) ∧ d2 = .int (b : Int) ∧ d3 = .int (c : Int) ∧ d4 = .int (e : Int) ∧ a < ts.length ∧ b < n ∧ c < n ∧ e < 10 ∧ dt = tabsD (putAt ts a (putAt (ts.getD a []) b (putAt ((ts.getD a []).getD b []) c (e : Int))))) ∨
  ∃ (i : Nat) (p : V × PyData × Nat), (fourP v1 v2 v3 v4 d1 d2 d3 d4 ts.length n)[i]? = some p ∧ (∀ j, j < i → ∀ q, (fourP v1 v2 v3 v4 d1 d2 d3 d4 ts.length n)[j]? = some q → below q.2.1 (q.2.2 : Int) = true) ∧ below p.2.1 (p.2.2 : Int) = false ∧ Sc p.1 p.2.1 ∧ dt = toldD "number" p.2.1
theorem four_at {v1 v2 v3 v4 : V} {d1 d2 d3 d4 : PyData} {m n : Nat} {j : Nat} {q : V × PyData × Nat} (h : (fourP v1 v2 v3 v4 d1 d2 d3 d4 m n)[j]? = some q) :
    (!wholeD (([d1, d2, d3, d4] : List PyData).getD j .none) 0 (([(m : Int) - 1, (n : Int) - 1, (n : Int) - 1, 9] : List Int).getD j 0)) = !below q.2.1 (q.2.2 : Int) := by
  match j, h with
  | 0, h =>
    cases h
    show (!wholeD d1 0 ((m : Int) - 1)) = _
    rw [whole_below, show (m : Int) - 1 + 1 = (m : Int) by omega]
  | 1, h =>
    cases h
    show (!wholeD d2 0 ((n : Int) - 1)) = _
    rw [whole_below, show (n : Int) - 1 + 1 = (n : Int) by omega]
  | 2, h =>
    cases h
    show (!wholeD d3 0 ((n : Int) - 1)) = _
    rw [whole_below, show (n : Int) - 1 + 1 = (n : Int) by omega]
  | 3, h =>
    cases h
    show (!wholeD d4 0 9) = _
    rw [whole_below]
    rfl
  | k + 4, h => simp [fourP] at h
theorem four_get {v1 v2 v3 v4 : V} {d1 d2 d3 d4 : PyData} {m n : Nat} {j : Nat} {v : V} {d : PyData} (hv : ([v1, v2, v3, v4] : List V)[j]? = some v) (hd : ([d1, d2, d3, d4] : List PyData)[j]? = some d) : ∃ l, (fourP v1 v2 v3 v4 d1 d2 d3 d4 m n)[j]? = some (v, d, l) := by
  match j, hv, hd with
  | 0, hv, hd => cases hv; cases hd; exact ⟨_, rfl⟩
  | 1, hv, hd => cases hv; cases hd; exact ⟨_, rfl⟩
  | 2, hv, hd => cases hv; cases hd; exact ⟨_, rfl⟩
  | 3, hv, hd => cases hv; cases hd; exact ⟨_, rfl⟩
  | k + 4, hv, _ => simp at hv
theorem four_sc {v1 v2 v3 v4 : V} {d1 d2 d3 d4 : PyData} {m n : Nat} {j : Nat} {q : V × PyData × Nat} (h1 : Sc v1 d1) (h2 : Sc v2 d2) (h3 : Sc v3 d3) (h4 : Sc v4 d4) (h : (fourP v1 v2 v3 v4 d1 d2 d3 d4 m n)[j]? = some q) : Sc q.1 q.2.1 := by
  match j, h with
  | 0, h => cases h; exact h1
  | 1, h => cases h; exact h2
  | 2, h => cases h; exact h3
  | 3, h => cases h; exact h4
  | k + 4, h => simp [fourP] at h
theorem four_lt {v1 v2 v3 v4 : V} {d1 d2 d3 d4 : PyData} {m n : Nat} {j : Nat} {q : V × PyData × Nat} (h : (fourP v1 v2 v3 v4 d1 d2 d3 d4 m n)[j]? = some q) : j < 4 := (List.getElem?_eq_some_iff.mp h).1
/-- what is due is what is told: the good case -/
theorem due_good {ts : List (List (List Int))} {n : Nat} {v1 v2 v3 v4 : V} {d1 d2 d3 d4 dt : PyData} (h : DueIs ts n v1 v2 v3 v4 d1 d2 d3 d4 dt) {a b c e : Nat} (e1 : d1 = .int (a : Int)) (e2 : d2 = .int (b : Int)) (e3 : d3 = .int (c : Int)) (e4 : d4 = .int (e : Int)) (l1 : a < ts.length) (l2 : b < n) (l3 : c < n) (l4 : e < 10) :
    dt = tabsD (putAt ts a (putAt (ts.getD a []) b (putAt ((ts.getD a []).getD b []) c (e : Int)))) := by
  subst e1 e2 e3 e4
  rcases h with ⟨a', b', c', e', h1, h2, h3, h4, _, _, _, _, h⟩ | ⟨i, p, hp, _, hb, _⟩
  · have f1 : a = a' := by injection h1 with q; omega
    have f2 : b = b' := by injection h2 with q; omega
    have f3 : c = c' := by injection h3 with q; omega
    have f4 : e = e' := by injection h4 with q; omega
    subst f1 f2 f3 f4
    exact h
  · have bl : ∀ (z m : Nat), z < m → below (.int (z : Int)) (m : Int) = true := fun z m hz => by
      show (decide (0 ≤ (z : Int)) && decide ((z : Int) < (m : Int))) = true
      rw [decide_eq_true (by omega), decide_eq_true (by omega)]
      rfl
    exfalso
    match i, hp with
    | 0, hp => cases hp; rw [bl _ _ l1] at hb; cases hb
    | 1, hp => cases hp; rw [bl _ _ l2] at hb; cases hb
    | 2, hp => cases hp; rw [bl _ _ l3] at hb; cases hb
    | 3, hp => cases hp; rw [bl _ _ l4] at hb; cases hb
    | k + 4, hp => simp [fourP] at hp
/-- .. the other -/
theorem due_bad {ts : List (List (List Int))} {n : Nat} {v1 v2 v3 v4 : V} {d1 d2 d3 d4 dt : PyData} (h : DueIs ts n v1 v2 v3 v4 d1 d2 d3 d4 dt) {i : Nat} {p : V × PyData × Nat} (hp : (fourP v1 v2 v3 v4 d1 d2 d3 d4 ts.length n)[i]? = some p)
    (hj : ∀ j, j < i → ∀ q, (fourP v1 v2 v3 v4 d1 d2 d3 d4 ts.length n)[j]? = some q → below q.2.1 (q.2.2 : Int) = true) (hb : below p.2.1 (p.2.2 : Int) = false) : dt = toldD "number" p.2.1 := by
  rcases h with ⟨a, b, c, e, rfl, rfl, rfl, rfl, l1, l2, l3, l4, _⟩ | ⟨i', p', hp', hj', hb', _, h⟩
  · have bl : ∀ (z m : Nat), z < m → below (.int (z : Int)) (m : Int) = true := fun z m hz => by
      show (decide (0 ≤ (z : Int)) && decide ((z : Int) < (m : Int))) = true
      rw [decide_eq_true (by omega), decide_eq_true (by omega)]
      rfl
    exfalso
    match i, hp with
    | 0, hp => cases hp; rw [bl _ _ l1] at hb; cases hb
    | 1, hp => cases hp; rw [bl _ _ l2] at hb; cases hb
    | 2, hp => cases hp; rw [bl _ _ l3] at hb; cases hb
    | 3, hp => cases hp; rw [bl _ _ l4] at hb; cases hb
    | k + 4, hp => simp [fourP] at hp
  · have e : i = i' := by
      rcases Nat.lt_trichotomy i i' with z | z | z
      · have q := hj' i z p hp
        rw [hb] at q
        cases q
      · exact z
      · have q := hj i' z p' hp'
        rw [hb'] at q
        cases q
    subst e
    rw [hp] at hp'
    cases hp'
    exact h
theorem scCR : FnScope ["m", "tables", "one", "n", "turn", "args", "highs", "wrong", "k", "due", "table", "row"] ["m", "tables", "one"] (defScope sCR) := ⟨rfl, rfl, rfl, by decide +kernel, rfl, by decide +kernel, by decide +kernel⟩
section
variable {P : Program} {w : World} {K : PySem.W.Frag} {mg : Str → Option Value} {base : Heap} {f c Pt C CT CN fN fW fC fTo : Addr} {fdN fdW fdC : FuncData} {TT : List (Addr × Str)}
set_option maxHeartbeats 4000000 in
theorem ok_cr {oc kV doc pm ct : Value} {od an : Option Addr} {osl : Array (Option Value)}
    (lk : K.lookup f = some ⟨oc, od, .func (PySem.W.fnOf "_law_changed_right" "_law_changed_right" (defArgs sCR) (defBody sCR) (defScope sCR) .none kV doc pm an (.ref c) ct), osl⟩) (hcd : PySem.W.codeIn K (.ref c) "_law_changed_right" = true)
    (U : TxU mg) (W : Fam1 K C) (Z : XTwo K mg CT CN) (TB : TabB base mg c Pt) (hmT : (Pt, qCR) ∈ TT) (huT : ∀ p ∈ TT, p.1 = Pt → p.2 = qCR)
    (RN : TxW K mg "_law_next" fN) (GN : FnOk P w K mg base CX0 1 fN fdN ["m", "many"] spNext) (bN : Binds K fdN ["m", "many"] [])
    (RW : TxW K mg "_law_is_whole" fW) (GW : FnOk P w K mg base CX0 1 fW fdW ["thing", "low", "high"] (spWh K)) (bW : Binds K fdW ["thing", "low", "high"] [])
    (mC : Meth K C "changed" fC) (GC : FnOk P w K mg base (L2.CX P w) 7 fC fdC ["self", "number", "row", "place", "entry"] (spChg K C CN)) (bCh : Binds K fdC ["self", "number", "row", "place", "entry"] [])
    {ocC kVC docC pmC ctC cdC : Value} {odC anC : Option Addr} {oslC : Array (Option Value)}
    (lkC : K.lookup fTo = some ⟨ocC, odC, .func (PySem.W.fnOf "_law_told" "_law_told" (defArgs sTo) (defBody sTo) (defScope sTo) .none kVC docC pmC anC cdC ctC), oslC⟩) (hcC : PySem.W.codeIn K cdC "_law_told" = true)
    (bC : Binds K (PySem.W.fnOf "_law_told" "_law_told" (defArgs sTo) (defBody sTo) (defScope sTo) .none kVC docC pmC anC cdC ctC) ["call"] []) (RTo : TxW K mg "_law_told" fTo) :
    FnG P w K mg base CX0 10 f (PySem.W.fnOf "_law_changed_right" "_law_changed_right" (defArgs sCR) (defBody sCR) (defScope sCR) .none kV doc pm an (.ref c) ct) ["m", "tables", "one"] (spCR K C TT) := by
  refine okGat lk hcd scCR (fun vs H Q E h => ?_) (fun A fr s H vs Q E hg hr h => ?_)
  · obtain ⟨m, x, dx, tv, n, ts, G, T, rfl, _⟩ := h
    rfl
  · obtain ⟨m, x, dx, tv, n, ts, G0, T0, rfl, M0, hT0, tb0, ht0, hf0, ok, k⟩ := h
    have h64 := hu64 hr
    refine ⟨_, pss_cons (ps_set (i := 3) scCR.nd rfl (Or.inl rfl) (pe_callB call_len_seq (by rfl) U.len PySem.boot_len (pa_cons (pe_ix (r := rIxT K) ix_tup (pv 1) pe_int (fun _ _ => rfl)) pa_nil)))
      (pss_cons (ps_for PassesOwn.never rfl (pi_range1 (by rfl) U.range (pa_cons pe_int pa_nil)) (pg_name (i := 4) scCR.nd rfl (Or.inl rfl)) (pss_cons (ps_set (i := 5) scCR.nd rfl (Or.inr rfl) (pe_lst (pa_cons (pe_ix (r := rIxL K) ix_list (pe_lst (pa_cons pe_int (pa_cons (pe_op op_sub (pe_callB call_len_seq (by rfl) U.len PySem.boot_len (pa_cons (pv 1) pa_nil)) pe_int) (pa_cons (pe_callB call_len_seq (by rfl) U.len PySem.boot_len (pa_cons (pv 1) pa_nil)) (pa_cons (pe_un un_neg pe_int) (pa_cons pe_non pa_nil)))))) (pe_call GN (hr.mono (by decide)) (by rfl) RN.at_ RN.kp bN .nil pass0 (pa_cons (pv 0) (pa_cons pe_int pa_nil))) (fun _ _ => rfl)) (pa_cons (pe_ix (r := rIxL K) ix_list (pe_lst (pa_cons pe_int (pa_cons (pe_op op_sub (pv 3) pe_int) (pa_cons (pv 3) (pa_cons pe_bl pa_nil))))) (pe_call GN (hr.mono (by decide)) (by rfl) RN.at_ RN.kp bN .nil pass0 (pa_cons (pv 0) (pa_cons pe_int pa_nil))) (fun _ _ => rfl)) pa_nil))))
      (pss_cons (ps_set (i := 5) scCR.nd rfl (Or.inr rfl) (pe_op op_cat (pv 5) (pe_lst (pa_cons (pe_ix (r := rIxL K) ix_list (pe_lst (pa_cons pe_int (pa_cons (pe_op op_sub (pv 3) pe_int) (pa_cons (pv 3) (pa_cons pe_str pa_nil))))) (pe_call GN (hr.mono (by decide)) (by rfl) RN.at_ RN.kp bN .nil pass0 (pa_cons (pv 0) (pa_cons pe_int pa_nil))) (fun _ _ => rfl)) (pa_cons (pe_ix (r := rIxL K) ix_list (pe_lst (pa_cons pe_int (pa_cons pe_int (pa_cons pe_int (pa_cons pe_int (pa_cons pe_non pa_nil)))))) (pe_call GN (hr.mono (by decide)) (by rfl) RN.at_ RN.kp bN .nil pass0 (pa_cons (pv 0) (pa_cons pe_int pa_nil))) (fun _ _ => rfl)) pa_nil)))))
      (C8.pss_cut (ps_set (i := 6) scCR.nd rfl (Or.inr rfl) (pe_lst (pa_cons (pe_op op_sub (pe_callB call_len_seq (by rfl) U.len PySem.boot_len (pa_cons (pv 1) pa_nil)) pe_int) (pa_cons (pe_op op_sub (pv 3) pe_int) (pa_cons (pe_op op_sub (pv 3) pe_int) (pa_cons pe_int pa_nil))))))
      (pss_cons (ps_setLc (i := 7) (own := [("k", 8)]) (g := gName 8) (by rfl) scCR.nd rfl rfl (sw_true rfl rfl rfl (by decide +kernel)) (pi_range1 (by rfl) U.range (pa_cons pe_int pa_nil)) (blkOk_by (own := [("k", 8)]) (N := ["m", "tables", "one", "n", "turn", "args", "highs", "wrong", "k", "due", "table", "row"]) (sc := defScope sCR) (by decide +kernel)) (fun _ _ _ _ _ => (pg_name (i := 8) scCR.nd rfl (Or.inl rfl))) (fun _ _ _ _ _ => pts_one (pt_not (pt_val (pe_call GW (hr.mono (by decide)) (by rfl) RW.at_ RW.kp bW .nil pass0 (pa_cons (pe_ix (r := rIxL K) ix_list (pv 5) (pv 8) (fun _ _ => rfl)) (pa_cons pe_int (pa_cons (pe_ix (r := rIxL K) ix_list (pv 6) (pv 8) (fun _ _ => rfl)) pa_nil))))))) (fun _ _ _ _ _ => pv 8))
      (C8.pss_cut (ps_set (i := 9) scCR.nd rfl (Or.inl rfl) (pe_ifExp (pt_cmpR (op_neE h64) (pv 7) (pe_lst pa_nil) (nomark _)) (pe_tup (pa_cons pe_str (pa_cons (pe_callB (call_repr hg h64) (by rfl) U.repr bt_repr (pa_cons (pe_ix (r := rIxL K) ix_list (pv 5) (pe_ix (r := rIxL K) ix_list (pv 7) pe_int (fun _ _ => rfl)) (fun _ _ => rfl)) pa_nil)) pa_nil))) pe_non))
      (C8.pss_cut (ps_if (pt_cmpR (op_eqL0 h64) (pv 7) (pe_lst pa_nil) (nomark _)) (pss_cons (ps_setLc (i := 10) (own := [("row", 11)]) (g := gName 11) (tt := tYes) (by rfl) scCR.nd rfl rfl (sw_true rfl rfl rfl (by decide +kernel)) (pi_tup (pe_ix (r := rIxT K) ix_tup (pv 1) (pe_ix (r := rIxL K) ix_list (pv 5) pe_int (fun _ _ => rfl)) (fun _ _ => rfl))) (blkOk_by (own := [("row", 11)]) (N := ["m", "tables", "one", "n", "turn", "args", "highs", "wrong", "k", "due", "table", "row"]) (sc := defScope sCR) (by decide +kernel)) (fun _ _ _ _ _ => (pg_name (i := 11) scCR.nd rfl (Or.inl rfl))) (fun _ _ _ _ _ => pts_nil) (fun _ _ _ _ _ => pe_callTy (r := rListOf K) call_list_of (by rfl) U.list boot_list (pa_cons (pv 11) pa_nil)))
      (pss_cons (ps_asg (pe_ix (r := rIxL K) ix_list (pv 5) pe_int (fun _ _ => rfl)) (pg_sub (pe_ix (r := rIxL K) ix_list (pv 10) (pe_ix (r := rIxL K) ix_list (pv 5) pe_int (fun _ _ => rfl)) (fun _ _ => rfl)) (pe_ix (r := rIxL K) ix_list (pv 5) pe_int (fun _ _ => rfl)) set_list))
      (pss_cons (ps_set (i := 10) scCR.nd rfl (Or.inl rfl) (pe_callTy (r := rTupOf K) call_tuple_of (by rfl) U.tup bt_tup (pa_cons (pe_lc (own := [("row", 11)]) (g := gName 11) (tt := tYes) (by rfl) scCR.nd (pi_list (pv 10)) (blkOk_by (own := [("row", 11)]) (N := ["m", "tables", "one", "n", "turn", "args", "highs", "wrong", "k", "due", "table", "row"]) (sc := defScope sCR) (by decide +kernel)) (fun _ _ _ _ _ => (pg_name (i := 11) scCR.nd rfl (Or.inl rfl))) (fun _ _ _ _ _ => pts_nil) (fun _ _ _ _ _ => pe_callTy (r := rTupOf K) call_tuple_of (by rfl) U.tup bt_tup (pa_cons (pv 11) pa_nil))) pa_nil)))
      (pss_one (ps_set (i := 9) scCR.nd rfl (Or.inl rfl) (pe_op op_catA (pe_op op_catA (pe_slice sl_tupA (pv 1) po_none (po_some (pe_ix (r := rIxL K) ix_list (pv 5) pe_int (fun _ _ => rfl)))) (pe_tup (pa_cons (pv 10) pa_nil))) (pe_slice sl_tupA (pv 1) (po_some (pe_op op_add (pe_ix (r := rIxL K) ix_list (pv 5) pe_int (fun _ _ => rfl)) pe_int)) po_none))))))) pss_nil)
      (pss_one (ps_if (pt_cmpR (op_neD h64) (pe_lamcall (T := TT) (TT := TTt K CT CN) (k := 7) (by rfl) RTo.at_ RTo.kp lkC hcC bC scTo rfl (Or.inl rfl) (told_gives2 U hg hr Z) TB rfl hmT huT (hr.mono (by decide)) (lamS_by (sc := defScope sCR) (by decide +kernel)) rfl (fun _ _ _ _ _ => rfl)
          (fun A' outer' s' H' E' f' c' hr5 => pe_meth (E := E') (pv 2) W.cls mC GC (hr5.mono (by decide)) bCh .nil (passes_call (takes_of rfl rfl rfl rfl) (fun _ _ _ _ h => h)) (pa_cons (pe_ix (r := rIxL K) ix_list (pv 5) pe_int (fun _ _ => rfl)) (pa_cons (pe_ix (r := rIxL K) ix_list (pv 5) pe_int (fun _ _ => rfl)) (pa_cons (pe_ix (r := rIxL K) ix_list (pv 5) pe_int (fun _ _ => rfl)) (pa_cons (pe_ix (r := rIxL K) ix_list (pv 5) pe_int (fun _ _ => rfl)) pa_nil)))))) (pv 9) (nomark _)) (pss_one (ps_ret pe_bl)) pss_nil)))))))))
      (pss_one (ps_ret pe_bl))), ?_⟩
    obtain ⟨at_, txs, rfl, hT, pT⟩ := ht0
    have l1 := ok.l1
    have l3 := ok.l3
    have n4 := ok.n4
    have n1 := ok.n1
    have lt := pr_len pT
    obtain ⟨t0, ht0⟩ : ∃ t0, ts[0]? = some t0 := ⟨ts[0]'(by omega), List.getElem?_eq_getElem _⟩
    obtain ⟨v0, hv0, hf0'⟩ := pr_at pT ht0
    have ot0 := ok.ok t0 (List.mem_of_getElem? ht0)
    obtain ⟨b0, ys0, rfl, hb0, ly0⟩ := tab_len hf0'
    refine ⟨_, rfl, at_, txs, 0, _, rfl, rfl, sqT_same M0.sm hT, atI_nat (j := 0) hv0, b0, ys0, rfl, .inr (sqT_same M0.sm hb0), ?_⟩
    rw [ly0, ot0.1]
    refine ⟨_, rfl, by decide, by decide, ?_⟩
    refine for_range (fun i σ H => ∃ (G : Hp) (o4 o5 o6 o7 o9 o10 : Option V), σ = [some (.ref m), some (.ref at_), some (.ref x), some (.int (n : Int)), o4, o5, o6, o7, none, o9, o10, none] ∧ Mst G H m (T0 + 4 * (i : Int)) ∧ ExtN G0 G ∧ Tabs TT G)
      ⟨G0, none, none, none, none, none, none, rfl, M0.mono (by omega), ExtN.refl _, tb0⟩ ?_ ?_
    · rintro i σ H1 hi ⟨G, o4, o5, o6, o7, o9, o10, rfl, M, eG, tbG⟩
      have i10 : i < 10 := hi
      have hTg := sqT_ext eG hT
      have hz : ∀ {z : Int}, T0 ≤ 900000000 → z ≤ T0 + 100 → z ≤ 1000000000 := fun a b => by omega
      refine ⟨_, rfl, at_, txs, rfl, .inr (sqT_same M.sm hTg), ?_⟩
      rw [lt]
      refine ⟨_, _, rfl, rfl, _, rfl, at_, txs, rfl, .inr (sqT_same M.sm hTg), ?_⟩
      rw [lt]
      refine ⟨_, rfl, (by show 5 ≤ sizeLine; decide), fun p1 hp1 => ?_⟩
      have g1 := M.sm.free hp1
      have M1 := M.grow (o := .lst [.int 0, .int ((ts.length : Int) - 1), .int (ts.length : Int), .int (-1), .non]) hp1
      have S1 := same_new (o := .lst [.int 0, .int ((ts.length : Int) - 1), .int (ts.length : Int), .int (-1), .non]) g1
      refine ⟨_, rfl, m, 5, _, _, rfl, M1, by omega, by decide, by decide, fun r1 H2 r10 r11 M2 => ?_⟩
      obtain ⟨va, hva, ma⟩ := mod_at (xs := [.int 0, .int ((ts.length : Int) - 1), .int (ts.length : Int), .int (-1), .non]) (j := r1) r10 r11
      obtain ⟨da, sa⟩ := allSc_cons (.int 0 (by decide)) (allSc_cons (.int ((ts.length : Int) - 1) (by omega)) (allSc_cons (.int (ts.length : Int) (by omega)) (allSc_cons (.int (-1) (by decide)) (allSc_cons .non allSc_nil)))) va ma
      refine ⟨p1, _, r1, va, rfl, rfl, SqL.of (M2.sm _ _ upd_same), hva, ?_⟩
      refine ⟨_, rfl, _, _, rfl, rfl, _, rfl, (by show 4 ≤ sizeLine; decide), fun p2 hp2 => ?_⟩
      have g2 := M2.sm.free hp2
      have M3 := M2.grow (o := .lst [.int 0, .int ((n : Int) - 1), .int (n : Int), .bl true]) hp2
      have S2 := S1.trans (same_new (o := .lst [.int 0, .int ((n : Int) - 1), .int (n : Int), .bl true]) g2)
      refine ⟨_, rfl, m, 4, _, _, rfl, M3, by omega, by decide, by decide, fun r2 H3 r20 r21 M4 => ?_⟩
      obtain ⟨vb, hvb, mb⟩ := mod_at (xs := [.int 0, .int ((n : Int) - 1), .int (n : Int), .bl true]) (j := r2) r20 r21
      obtain ⟨db, sb⟩ := allSc_cons (.int 0 (by decide)) (allSc_cons (.int ((n : Int) - 1) (by omega)) (allSc_cons (.int (n : Int) (by omega)) (allSc_cons (.bl true) allSc_nil))) vb mb
      refine ⟨p2, _, r2, vb, rfl, rfl, SqL.of (M4.sm _ _ upd_same), hvb, ?_⟩
      refine ⟨(by show 2 ≤ sizeLine; decide), fun p3 hp3 => ?_⟩
      have g3 := M4.sm.free hp3
      have M5 := M4.grow (o := .lst [va, vb]) hp3
      have S3 := S2.trans (same_new (o := .lst [va, vb]) g3)
      -- the other two
      refine ⟨_, rfl, _, rfl, _, _, rfl, rfl, _, rfl, (by show 4 ≤ sizeLine; decide), fun p4 hp4 => ?_⟩
      have g4 := M5.sm.free hp4
      have M6 := M5.grow (o := .lst [.int 0, .int ((n : Int) - 1), .int (n : Int), .str "0"]) hp4
      have n4s := same_new (o := .lst [.int 0, .int ((n : Int) - 1), .int (n : Int), .str "0"]) g4
      have S4 := S3.trans n4s
      refine ⟨_, rfl, m, 4, _, _, rfl, M6, by omega, by decide, by decide, fun r3 H4 r30 r31 M7 => ?_⟩
      obtain ⟨vc, hvc, mc⟩ := mod_at (xs := [.int 0, .int ((n : Int) - 1), .int (n : Int), .str "0"]) (j := r3) r30 r31
      obtain ⟨dc, sc⟩ := allSc_cons (.int 0 (by decide)) (allSc_cons (.int ((n : Int) - 1) (by omega)) (allSc_cons (.int (n : Int) (by omega)) (allSc_cons .nil allSc_nil))) vc mc
      refine ⟨p4, _, r3, vc, rfl, rfl, SqL.of (M7.sm _ _ upd_same), hvc, ?_⟩
      refine ⟨(by show 5 ≤ sizeLine; decide), fun p5 hp5 => ?_⟩
      have g5 := M7.sm.free hp5
      have M8 := M7.grow (o := .lst [.int 0, .int 9, .int 10, .int 5, .non]) hp5
      have n5s := same_new (o := .lst [.int 0, .int 9, .int 10, .int 5, .non]) g5
      have S5 := S4.trans n5s
      refine ⟨_, rfl, m, 5, _, _, rfl, M8, by omega, by decide, by decide, fun r4 H5 r40 r41 M9 => ?_⟩
      obtain ⟨ve, hve, me⟩ := mod_at (xs := [.int 0, .int 9, .int 10, .int 5, .non]) (j := r4) r40 r41
      obtain ⟨de, se⟩ := allSc_cons (.int 0 (by decide)) (allSc_cons (.int 9 (by decide)) (allSc_cons (.int 10 (by decide)) (allSc_cons (.int 5 (by decide)) (allSc_cons .non allSc_nil)))) ve me
      refine ⟨p5, _, r4, ve, rfl, rfl, SqL.of (M9.sm _ _ upd_same), hve, ?_⟩
      refine ⟨(by show 2 ≤ sizeLine; decide), fun p6 hp6 => ?_⟩
      have g6 := M9.sm.free hp6
      have Ma := M9.grow (o := .lst [vc, ve]) hp6
      have n6s := same_new (o := .lst [vc, ve]) g6
      have S6 := S5.trans n6s
      have e3 := n6s _ _ (n5s _ _ (n4s _ _ (upd_same (a := p3) (o := .lst [va, vb]))))
      refine ⟨p3, p6, _, _, rfl, rfl, Ma.sm _ _ e3, Ma.sm _ _ upd_same, (by show 4 ≤ sizeLine; decide), fun pa hpa => ?_⟩
      have g7 := Ma.sm.free hpa
      have Mb := Ma.grow (o := .lst ([va, vb] ++ [vc, ve])) hpa
      have S7 := S6.trans (same_new (o := .lst ([va, vb] ++ [vc, ve])) g7)
      obtain ⟨Gb, Mb, S7, hA7⟩ : ∃ Gb, Mst Gb _ m _ ∧ Same G Gb ∧ SqL K Gb pa [va, vb, vc, ve] := ⟨_, Mb, S7, SqL.of upd_same⟩
      have tbH := Tabs.ext tbG S7
      have eH := eG.trans (ext_of S7)
      have hTb := sqT_ext eH hT
      refine ⟨fun σ' H' => ∃ (G' : Hp) (ph : Addr) (o7 o9 o10 : Option V), σ' = [some (.ref m), some (.ref at_), some (.ref x), some (.int (n : Int)), some (.int (0 + (i : Int))), some (.ref pa), some (.ref ph), o7, none, o9, o10, none] ∧ Mst G' H' m (T0 + 4 * ((i : Int) + 1)) ∧ ExtN G0 G' ∧ Tabs TT G' ∧
        SqL K G' pa [va, vb, vc, ve] ∧ SqL K G' ph [.int ((ts.length : Int) - 1), .int ((n : Int) - 1), .int ((n : Int) - 1), .int 9], ?_, ?_⟩
      · refine ⟨_, rfl, at_, txs, rfl, .inr (sqT_same Mb.sm hTb), ?_⟩
        rw [lt]
        refine ⟨_, _, rfl, rfl, _, rfl, _, _, rfl, rfl, _, rfl, _, _, rfl, rfl, (by show 4 ≤ sizeLine; decide), fun ph hph => ?_⟩
        have g8 := Mb.sm.free hph
        have S8 := same_new (o := .lst [.int ((ts.length : Int) - 1), .int ((n : Int) - 1), .int ((n : Int) - 1), .int 9]) g8
        exact ⟨_, ph, _, _, _, rfl, (Mb.grow hph).mono (by omega), eH.trans (ext_of S8), Tabs.ext tbH S8, S8.seq hA7, SqL.of upd_same⟩
      · rintro σ' H6 ⟨G6, ph, o7, o9, o10, rfl, M6', e6, tb6, hA, hHs⟩
        clear hA7
        -- which are wrong
        let ds4 : List PyData := [da, db, dc, de]
        let hs4 : List Int := [(ts.length : Int) - 1, (n : Int) - 1, (n : Int) - 1, 9]
        let p : Nat → Bool := fun j => !wholeD (ds4.getD j .none) 0 (hs4.getD j 0)
        have four : Paired Sc [va, vb, vc, ve] ds4 := .cons sa (.cons sb (.cons sc (.cons se .nil)))
        have hA6 := M6'.sm.seq hA
        have hH6 := M6'.sm.seq hHs
        refine ⟨_, rfl, by decide, by decide, fun D hD => lc_range (lo := 0) (n := 4) (fun j H' => Same H6 H' ∧ H' D = some (.lst (((List.range j).filter p).map fun q : Nat => V.int (0 + (q : Int))))) ⟨same_new hD, upd_same⟩ (fun j H' hj q => ?_) (fun H7 q => ?_)⟩
        · obtain ⟨s1, eD⟩ := q
          obtain ⟨vj, hvj⟩ : ∃ vj, ([va, vb, vc, ve] : List V)[j]? = some vj := ⟨[va, vb, vc, ve][j]'hj, List.getElem?_eq_getElem _⟩
          obtain ⟨dj, hdj, sj⟩ := pr_get four hvj
          obtain ⟨zj, hzj⟩ : ∃ z, hs4[j]? = some z := ⟨hs4[j]'hj, List.getElem?_eq_getElem _⟩
          have hzv : (hs4.map V.int)[j]? = some (.int zj) := by rw [List.getElem?_map, hzj]; rfl
          have e0 : (0 : Int) + (j : Int) = (j : Int) := Int.zero_add _
          refine ⟨rfl, ?_⟩
          refine ⟨_, rfl, _, rfl, pa, _, 0 + (j : Int), vj, rfl, rfl, s1.seq hA6, by rw [e0]; exact atI_nat hvj, ?_⟩
          refine ⟨_, rfl, _, rfl, ph, _, 0 + (j : Int), .int zj, rfl, rfl, s1.seq hH6, by rw [e0]; exact atI_nat hzv, ?_⟩
          refine ⟨vj, dj, 0, zj, rfl, sj.dq, ?_⟩
          refine ⟨_, rfl, ?_⟩
          have ep : p j = !wholeD dj 0 zj := by
            show (!wholeD (ds4.getD j .none) 0 (hs4.getD j 0)) = _
            rw [List.getD_eq_getElem?_getD, hdj, List.getD_eq_getElem?_getD, hzj]
            rfl
          have small : (((List.range j).filter p).map fun q : Nat => V.int (0 + (q : Int))).length < sizeLine := by
            rw [List.length_map]
            have := List.length_filter_le p (List.range j)
            rw [List.length_range] at this
            exact Nat.lt_of_le_of_lt (show _ ≤ 10 by omega) (by decide)
          cases hw : wholeD dj 0 zj with
          | true =>
            refine iteF ⟨s1, ?_⟩
            rw [eD, filter_snoc, ep, hw]
            simp
          | false =>
            refine iteT ⟨_, rfl, _, eD, small, same_wr s1 hD, ?_⟩
            rw [upd_same, filter_snoc, ep, hw, List.map_append]
            rfl
        · obtain ⟨s1, eD⟩ := q
          have hA7 := s1.seq hA6
          have M7' := M6'.same s1
          have heads : ∀ {i0 : Nat} {r : List Nat}, (List.range 4).filter p = i0 :: r → i0 < 4 ∧ p i0 = true ∧ ∀ j, j < i0 → p j = false := fun h => filter_head h
          have nones : (List.range 4).filter p = [] → ∀ j, j < 4 → p j = false := fun h => filter_none h
          generalize hL : (List.range 4).filter p = L at eD heads nones
          have eD1 : SqL K H7 D ((L.map fun q : Nat => (0 : Int) + (q : Int)).map V.int) := SqL.of (by rw [eD, List.map_map]; rfl)
          refine ⟨fun σ' H' => ∃ w : V, σ' = [some (.ref m), some (.ref at_), some (.ref x), some (.int (n : Int)), some (.int (0 + (i : Int))), some (.ref pa), some (.ref ph), some (.ref D), none, some w, o10, none] ∧ Same H7 H' ∧
            ∀ i0 r, L = i0 :: r → ∃ v d pq, ([va, vb, vc, ve] : List V)[i0]? = some v ∧ ds4[i0]? = some d ∧ Sc v d ∧ w = .ref pq ∧ SqT K H' pq [.str "number", .str d.shown], ?_, ?_⟩
          · refine ⟨_, rfl, Nat.zero_le _, fun q1 hq1 => ⟨D, q1, _, rfl, rfl, (same_new hq1).seq eD1, SqL.of upd_same, _, rfl, ?_⟩⟩
            have n1s := same_new (o := .lst []) hq1
            cases L with
            | nil => exact iteF ⟨_, rfl, n1s, fun i0 r h => by cases h⟩
            | cons i0 r =>
              obtain ⟨h4, _, _⟩ := heads rfl
              obtain ⟨v, hv⟩ : ∃ v, ([va, vb, vc, ve] : List V)[i0]? = some v := ⟨[va, vb, vc, ve][i0]'h4, List.getElem?_eq_getElem _⟩
              obtain ⟨d, hd, sd⟩ := pr_get four hv
              refine iteT ⟨_, rfl, _, rfl, D, _, 0, .int ((0 : Int) + (i0 : Int)), rfl, rfl, n1s.seq eD1, atI_nat (j := 0) rfl, ?_⟩
              refine ⟨pa, _, 0 + (i0 : Int), v, rfl, rfl, n1s.seq hA7, by rw [Int.zero_add]; exact atI_nat hv, ?_⟩
              refine ⟨v, d, rfl, sd.dq, sd.rp.sh, sd.rp.len, sd.rp.dep, (by show 2 ≤ sizeLine; decide), fun pq hpq => ?_⟩
              refine ⟨.ref pq, rfl, n1s.trans (same_new hpq), fun i1 r1 h => ?_⟩
              cases h
              exact ⟨v, d, pq, hv, hd, sd, rfl, SqT.of upd_same⟩
          · rintro σ' H8 ⟨w, rfl, s2, due⟩
            have hT6 : SqT K H6 at_ txs := sqT_same M6'.sm (sqT_ext e6 hT)
            have pT6 : Paired (IsTab K H6) txs ts := pr_ts st_tab ((ts_ext e6).trans (TS.of M6'.sm)) pT
            have s68 := s1.trans s2
            have isB : ∀ {j : Nat} {q : V × PyData × Nat}, (fourP va vb vc ve da db dc de ts.length n)[j]? = some q → p j = !below q.2.1 (q.2.2 : Int) := fun h => four_at h
            refine ⟨fun σ' H' => ∃ (w : V) (dt : PyData) (o10 : Option V), σ' = [some (.ref m), some (.ref at_), some (.ref x), some (.int (n : Int)), some (.int (0 + (i : Int))), some (.ref pa), some (.ref ph), some (.ref D), none, some w, o10, none] ∧ Same H6 H' ∧ Dp K H' w dt ∧ SeqAt.shaped dt = true ∧ dt.canLay0 = true ∧ DueIs ts n va vb vc ve da db dc de dt, ?_, ?_⟩
            · refine ⟨_, rfl, Nat.zero_le _, fun q2 hq2 => ⟨D, q2, _, rfl, rfl, (s2.trans (same_new hq2)).seq eD1, SqL.of upd_same, _, rfl, ?_⟩⟩
              have s9 := s68.trans (same_new (o := .lst []) hq2)
              cases L with
              | cons i0 r =>
                obtain ⟨v, d, pq, hv, hd, sd, rfl, hpq⟩ := due i0 r rfl
                obtain ⟨_, pi, pj⟩ := heads rfl
                obtain ⟨lim, hl⟩ := four_get (m := ts.length) (n := n) hv hd
                have b0 := isB hl
                rw [pi] at b0
                refine iteF ⟨_, toldD "number" d, _, rfl, s9, .tup (sqT_same (same_new hq2) hpq) (.cons (.str _) (.cons (.str _) .nil)), shaped_two (by decide +kernel) sd.okS, lay_two (by decide +kernel) sd.okS, .inr ⟨i0, _, hl, fun j hj q hq => ?_, ?_, sd, rfl⟩⟩
                · have z := isB hq
                  rw [pj j hj] at z
                  cases y : below q.2.1 (q.2.2 : Int) with
                  | true => rfl
                  | false => rw [y] at z; cases z
                · cases y : below d (lim : Int) with
                  | false => rfl
                  | true => rw [show below (v, d, lim).2.1 ((v, d, lim).2.2 : Int) = true from y] at b0; cases b0
              | nil =>
                refine iteT ?_
                have yes : ∀ {j : Nat} {q : V × PyData × Nat}, (fourP va vb vc ve da db dc de ts.length n)[j]? = some q → below q.2.1 (q.2.2 : Int) = true := fun {j q} h => by
                  have z := isB h
                  rw [nones rfl j (four_lt h)] at z
                  cases y : below q.2.1 (q.2.2 : Int) with
                  | true => rfl
                  | false => rw [y] at z; cases z
                obtain ⟨ja, rfl, ha0⟩ := below_num (yes (j := 0) rfl)
                obtain ⟨jb, rfl, hb0⟩ := below_num (yes (j := 1) rfl)
                obtain ⟨jc, rfl, hc0⟩ := below_num (yes (j := 2) rfl)
                obtain ⟨je, rfl, he0⟩ := below_num (yes (j := 3) rfl)
                have ha1 : ja < ts.length := ha0
                have hb1 : jb < n := hb0
                have hc1 : jc < n := hc0
                have he1 : je < 10 := he0
                have eva := dq_int (K := K) (H := H6) sa.dq
                have evb := dq_int (K := K) (H := H6) sb.dq
                have evc := dq_int (K := K) (H := H6) sc.dq
                have eve := dq_int (K := K) (H := H6) se.dq
                subst eva evb evc eve
                have et := getD_at (l := ts) [] ha1
                have mt := List.mem_of_getElem? et
                have ot := ok.ok _ mt
                obtain ⟨vt, hvt, ft⟩ := pr_at pT6 et
                obtain ⟨ct, ys, rfl, hct, pys⟩ := ft
                have ly : ys.length = (ts.getD ja []).length := pr_len pys
                have er := getD_at (l := ts.getD ja []) [] (show jb < _ by rw [ot.1]; exact hb1)
                have or_ := ot.2 _ (List.mem_of_getElem? er)
                have hA9 := s9.seq hA6
                refine ⟨_, rfl, _, rfl, pa, _, 0, .int (ja : Int), rfl, rfl, hA9, atI_nat (j := 0) rfl, at_, txs, (ja : Int), _, rfl, rfl, sqT_same s9 hT6, atI_nat hvt, ct, rfl, ⟨ys, sqT_same s9 hct⟩, fun D2 hD2 => lc_tup (xs := ys) (fun j H' => ∃ zs, Rows _ H' D2 zs ((ts.getD ja []).take j)) ⟨[], rows_nil hD2⟩ (fun j H' _ ⟨zs, R⟩ => sqT_same (s9.trans R.sm) hct) (fun j y H' hy pv' => ?_) (fun H' pv' => ?_)⟩
                · obtain ⟨zs, R⟩ := pv'
                  obtain ⟨r, hr', fr'⟩ := pr_get pys hy
                  obtain ⟨cr, rfl, hcr⟩ := fr'
                  refine ⟨rfl, ?_⟩
                  simp only [tYes, if_true]
                  refine ⟨_, rfl, cr, _, rfl, .inr (sqT_same (s9.trans R.sm) hcr), fun l hl => ⟨zs.map V.ref, ?_, ?_, zs ++ [l], ?_⟩⟩
                  · rw [upd_ne (ne_of_none R.at_ hl)]
                    exact R.at_
                  · have := R.len
                    rw [List.length_take] at this
                    rw [List.length_map]
                    exact Nat.lt_of_le_of_lt (show _ ≤ 100 by have := ot.1; omega) (by decide)
                  · rw [take_one hr']
                    exact rows_more R hl
                · obtain ⟨zs, R⟩ := pv'
                  rw [ly, List.take_length] at R
                  have hAr := R.sm.seq hA9
                  obtain ⟨zb, hzb⟩ : ∃ zb, zs[jb]? = some zb := ⟨zs[jb]'(by rw [R.len, ot.1]; exact hb1), List.getElem?_eq_getElem _⟩
                  have hzl : (zs.map V.ref)[jb]? = some (.ref zb) := by rw [List.getElem?_map, hzb]; rfl
                  have hrow := R.row jb zb _ hzb er
                  refine ⟨_, rfl, pa, _, 3, .int (je : Int), rfl, rfl, hAr, atI_nat (j := 3) rfl, ?_⟩
                  refine ⟨_, rfl, _, rfl, pa, _, 1, .int (jb : Int), rfl, rfl, hAr, atI_nat (j := 1) rfl, D2, _, (jb : Int), .ref zb, rfl, rfl, SqL.of R.at_, atI_nat hzl, ?_⟩
                  refine ⟨_, rfl, pa, _, 2, .int (jc : Int), rfl, rfl, hAr, atI_nat (j := 2) rfl, zb, _, (jc : Int), jc, rfl, rfl, hrow, ixN_at (by rw [List.length_map, or_.1]; exact hc1), ?_⟩
                  have R2 := rows_set (c := jc) (e := (je : Int)) R hzb er
                  generalize hHs : upd H' zb _ = Hs at R2 ⊢
                  clear hHs
                  have lt2 : ((ts.getD ja []).set jb (((ts.getD ja []).getD jb []).set jc (je : Int))).length = (ts.getD ja []).length := List.length_set
                  refine ⟨_, rfl, D2, rfl, ⟨_, SqL.of R2.at_⟩, fun D3 hD3 => lcL_new (F := IsRow K) st_row hD3 (SqL.of R2.at_) (ds := (ts.getD ja []).set jb (((ts.getD ja []).getD jb []).set jc (je : Int))) (by rw [List.length_map, R2.len]) (by rw [lt2, ot.1]; omega) (fun _ => rfl) (fun j y d H' Q' hy hd s' k' => ?_) (fun ys' H' s' hD' hp' => ?_)⟩
                  · obtain ⟨z, hz, rfl⟩ : ∃ z, zs[j]? = some z ∧ y = V.ref z := by
                      rw [List.getElem?_map] at hy
                      cases e : zs[j]? with
                      | none => rw [e] at hy; cases hy
                      | some z => rw [e] at hy; exact ⟨z, rfl, (Option.some.inj hy).symm⟩
                    exact ⟨_, rfl, z, _, rfl, .inl ⟨SqL.of (s' _ _ (R2.row j z d hz hd)), fun l hl => k' _ _ (same_new hl) ⟨l, rfl, SqT.of upd_same⟩⟩⟩
                  · refine ⟨D3, ys', rfl, .inl ⟨SqL.of hD', fun q3 hq3 => ?_⟩⟩
                    have s10 := s9.trans (R2.sm.trans (s'.trans (same_new (o := .tup ys') hq3)))
                    have hj1 : ja < txs.length := by rw [lt]; exact ha1
                    have cj : (ja : Int) + 1 = ((ja + 1 : Nat) : Int) := by omega
                    have line : ∀ z : Nat, z ≤ 7000 → z ≤ sizeLine := fun z h => Nat.le_trans h (by decide)
                    refine ⟨_, rfl, _, rfl, pa, _, 0, .int (ja : Int), rfl, rfl, s10.seq hA6, atI_nat (j := 0) rfl, _, rfl, sl_new (sqT_same s10 hT6) fun c1 K1 u1 f1 => ?_⟩
                    rw [cut_to (Nat.le_of_lt hj1)] at f1
                    refine ⟨_, rfl, (by show 1 ≤ sizeLine; decide), fun q4 hq4 => ?_⟩
                    have u2 := same_new (o := .tup [.ref q3]) hq4
                    refine cat_new (sqT_same u2 f1) (SqT.of upd_same) (line _ (by rw [List.length_take]; show _ + 1 ≤ _; omega)) fun c2 K2 u3 f2 => ?_
                    refine ⟨_, rfl, _, rfl, pa, _, 0, .int (ja : Int), rfl, rfl, (((s10.trans u1).trans u2).trans u3).seq hA6, atI_nat (j := 0) rfl, _, _, rfl, rfl, _, rfl, ?_⟩
                    dsimp only [tNoPart]
                    refine sl_new (sqT_same (((s10.trans u1).trans u2).trans u3) hT6) fun c3 K3 u4 f3 => ?_
                    rw [cj, cut_from hj1] at f3
                    refine cat_new (sqT_same u4 f2) f3 (line _ (by rw [List.length_append, List.length_take, List.length_drop]; show _ + 1 + _ ≤ _; omega)) fun c4 K4 u5 f4 => ?_
                    have u15 := (((u1.trans u2).trans u3).trans u4).trans u5
                    have row' : (ts.getD ja []).set jb (((ts.getD ja []).getD jb []).set jc (je : Int)) = putAt (ts.getD ja []) jb (putAt ((ts.getD ja []).getD jb []) jc (je : Int)) := by
                      rw [set_put (show jc < _ by rw [or_.1]; exact hc1), set_put (show jb < _ by rw [ot.1]; exact hb1)]
                    rw [row'] at hp'
                    have isT : IsTab K K4 (.ref q3) (putAt (ts.getD ja []) jb (putAt ((ts.getD ja []).getD jb []) jc (je : Int))) := ⟨q3, ys', rfl, sqT_same u15 (SqT.of upd_same), pr_ts st_row (TS.of ((same_new hq3).trans u15)) hp'⟩
                    have isTs : IsTabs K K4 (.ref c4) (putAt ts ja (putAt (ts.getD ja []) jb (putAt ((ts.getD ja []).getD jb []) jc (je : Int)))) := ⟨c4, _, rfl, f4, pr_put (pr_ts st_tab (TS.of (s10.trans u15)) pT6) isT⟩
                    exact ⟨_, _, _, rfl, s10.trans u15, dp_tabs isTs, shaped_tabs _, lay_of_shaped (shaped_tabs _), .inl ⟨ja, jb, jc, je, rfl, rfl, rfl, rfl, ha1, hb1, hc1, he1, rfl⟩⟩
            · rintro σ' H9 ⟨w9, dt, o10', rfl, s9, dw, sh9, ly9, due9⟩
              have M9 := M6'.same s9
              have tb9 := Tabs.ext tb6 M9.sm
              have fam9 := fam_same M9.sm (fam_ext e6 hf0)
              refine ⟨tb9, fun H10 e10 tb10 => ?_⟩
              have fam10 := fam_ext e10 fam9
              have fam10' := fam10
              obtain ⟨fs, tv, hx, _, _, _, _, lch, _⟩ := fam10'
              have hA10 := sqL_ext e10 (s9.seq hA6)
              have fin : ∀ (H' : Hp), Same H10 H' → ∃ (G : Hp) (o4 o5 o6 o7 o9 o10 : Option V), [some (.ref m), some (.ref at_), some (.ref x), some (.int (n : Int)), some (.int (0 + (i : Int))), some (.ref pa), some (.ref ph), some (.ref D), none, some w9, o10', none] = [some (.ref m), some (.ref at_), some (.ref x), some (.int (n : Int)), o4, o5, o6, o7, none, o9, o10, none] ∧ Mst G H' m (T0 + 4 * ((i + 1 : Nat) : Int)) ∧ ExtN G0 G ∧ Tabs TT G := fun H' s' => by
                obtain ⟨G', Mz, ez, _, _, keep⟩ := M9.ext (e10.trans (ext_of s'))
                exact ⟨G', _, _, _, _, _, _, rfl, Mz.mono (by omega), e6.trans ez, tabs_in (Tabs.ext tb10 s') keep⟩
              refine ⟨_, rfl, x, dx, fs, rfl, hx, lch, ?_⟩
              refine ⟨_, rfl, pa, _, 0, va, rfl, rfl, hA10, atI_nat (j := 0) rfl, _, rfl, pa, _, 1, vb, rfl, rfl, hA10, atI_nat (j := 1) rfl, _, rfl, pa, _, 2, vc, rfl, rfl, hA10, atI_nat (j := 2) rfl, _, rfl, pa, _, 3, ve, rfl, rfl, hA10, atI_nat (j := 3) rfl, ?_⟩
              refine ⟨x, dx, n, ts, va, vb, vc, ve, da, db, dc, de, rfl, fam10, ok, ⟨sa.dq, sb.dq, sc.dq, se.dq⟩, fun a b c e q1 q2 q3 q4 g1 g2 g3 g4 y dy H11 s11 fam11 => ?_, fun i0 pp hp hj hb dd H11 s11 hdd => .inr ⟨rfl, dd, pp.1, pp.2.1, rfl, hdd, (four_sc sa sb sc se hp).dq, (four_sc sa sb sc se hp).rp, fun pq H12 s12 hpq => ?_⟩⟩
              · obtain ⟨gs, uv, hy, m1, _, _, _, _, hu⟩ := fam11
                have ed := due_good due9 q1 q2 q3 q4 g1 g2 g3 g4
                refine ⟨y, C, dy, gs, uv, rfl, hy, W.cls, W.tables, m1, _, rfl, _, dt, dp_tabs hu, Dp.same s11 (Dp.ext e10 dw), shaped_tabs _, sh9, _, rfl, ?_⟩
                rw [← ed, SeqAt.eqv_refl _ ly9]
                exact iteF (fin _ s11)
              · have ed := due_bad due9 hp hj hb
                have sq := four_sc sa sb sc se hp
                refine ⟨_, rfl, toldD "number" pp.2.1, dt, .tup hpq (.cons (.str _) (.cons (.str _) .nil)), Dp.same (s11.trans s12) (Dp.ext e10 dw), shaped_two (by decide +kernel) sq.okS, sh9, _, rfl, ?_⟩
                rw [← ed, SeqAt.eqv_refl _ ly9]
                exact iteF (fin _ (s11.trans s12))
    · rintro σ H1 ⟨G, o4, o5, o6, o7, o9, o10, rfl, M, eG, tbG⟩
      exact k G H1 eG tbG (M.mono (by show T0 + 4 * 10 ≤ _; omega))
end
end G

set_option Elab.async false
set_option maxRecDepth 100000
namespace G
open PySem L2 PySem.Spec PyProof.Rows
/-! ### what is made new: data that no list of the caller's stands in -/
def hid (G G' : Hp) : Hp := fun b => match G b with
  | some (.lst _) => none
  | _ => G' b
theorem hid_of {G G' : Hp} {b : Addr} (h : ∀ xs, G b ≠ some (.lst xs)) : hid G G' b = G' b := by
  unfold hid
  split
  · rename_i xs e
    exact absurd e (h xs)
  · rfl
theorem hid_no {G G' : Hp} {b : Addr} {xs : List V} (h : G b = some (.lst xs)) : hid G G' b = none := by
  unfold hid
  rw [h]
theorem hid_new {G G' : Hp} {b : Addr} (h : G b = none) : hid G G' b = G' b := hid_of fun xs z => by rw [h] at z; cases z
theorem hid_sm {G G' : Hp} : Same (hid G G') G' := fun b o h => by
  unfold hid at h
  split at h
  · cases h
  · exact h
theorem hid_le {G G1 G2 G6 : Hp} (a : Same G G1) (s : Same G2 G6) : Same (hid G1 G2) (hid G G6) := fun b o h => by
  have n : ∀ xs, G b ≠ some (.lst xs) := fun xs z => by
    rw [hid_no (a _ _ z)] at h
    cases h
  rw [hid_of n]
  exact s _ _ (hid_sm _ _ h)
theorem hid_ts {G G' : Hp} (s : Same G G') : TS G' (hid G G') :=
  ⟨fun b xs h => by
    rw [hid_of fun ys z => by
      have q := s _ _ z
      rw [h] at q
      cases q]
    exact h, fun b o xs h => by
    rw [hid_of fun ys z => by
      have q := s _ _ z
      rw [h] at q
      cases q]
    exact h⟩
theorem pts_hid {K : PySem.W.Frag} {G G' : Hp} (s : Same G G') {xs : List V} {ds : List PyData} (p : Paired (Pt K G') xs ds) : Paired (Pt K (hid G G')) xs ds := pr_map (fun _ _ z => Pt.ts (hid_ts s) z) p
/-- what has grown since H0: F, all of it new to H0 -/
structure Gr (H0 F H : Hp) : Prop where
  sm : Same H0 H
  nw : ∀ b o, F b = some o → H0 b = none
theorem Gr.nil {H : Hp} : Gr H (fun _ => none) H := ⟨Same.refl _, fun _ _ h => nomatch h⟩
theorem Gr.grow {H0 F H : Hp} {p : Addr} {o : HO} (g : Gr H0 F H) (h : H p = none) : Gr H0 (upd F p o) (upd H p o) :=
  ⟨g.sm.trans (same_new h), fun b u e => by
    by_cases q : b = p
    · subst q
      cases z : H0 b with
      | none => rfl
      | some w => rw [g.sm _ _ z] at h; cases h
    · rw [upd_ne q] at e
      exact g.nw _ _ e⟩
def uni (G F : Hp) : Hp := fun b => match F b with
  | some o => some o
  | none => G b
theorem uni_r {G F : Hp} : Same F (uni G F) := fun b o h => by
  unfold uni
  rw [h]
theorem uni_l {G F H0 H : Hp} (g : Gr H0 F H) (s : Same G H0) : Same G (uni G F) := fun b o h => by
  unfold uni
  cases e : F b with
  | none => exact h
  | some u =>
    have := g.nw _ _ e
    rw [s _ _ h] at this
    cases this
theorem uni_hid {G F H0 H : Hp} (g : Gr H0 F H) (s : Same G H0) : Same F (hid G (uni G F)) := fun b o h => by
  rw [hid_new]
  · exact uni_r _ _ h
  · cases e : G b with
    | none => rfl
    | some u =>
      have := g.nw _ _ h
      rw [s _ _ e] at this
      cases this
theorem Mst.bare {G H : Hp} {m : Addr} {T : Int} (M : Mst G H m T) : Mst (fun _ => none) H m T := by
  obtain ⟨c, l, cs, ls, t, S, ht⟩ := M
  exact ⟨c, l, cs, ls, t, ⟨fun _ _ h => (nomatch h), rfl, rfl, rfl, S.hm, S.hc, S.hl, S.cl, S.nc, S.nl, S.ge, S.t0⟩, ht⟩
theorem Mst.both {G F H0 H : Hp} {m : Addr} {T T' : Int} (M : Mst G H0 m T) (g : Gr H0 F H) (N : Mst F H m T') : Mst (uni G F) H m T := by
  obtain ⟨c, l, cs, ls, t, S, ht⟩ := M.same g.sm
  obtain ⟨c0, l0, cs0, ls0, t0, S0, _⟩ := M
  have no : ∀ {b : Addr} {o : HO}, H0 b = some o → F b = none := fun {b o} h => by
    cases e : F b with
    | none => rfl
    | some u =>
      have := g.nw _ _ e
      rw [h] at this
      cases this
  have un : ∀ {b : Addr}, F b = none → uni G F b = G b := fun h => by
    unfold uni
    rw [h]
  have em : mK c l t = mK c0 l0 t0 := by
    have := g.sm _ _ S0.hm
    rw [S.hm] at this
    cases this
    rfl
  refine ⟨c0, l0, cs0, ls0, t0, ⟨fun b o h => ?_, by rw [un (no S0.hm)]; exact S0.gm, by rw [un (no S0.hl)]; exact S0.gl, by rw [un (no S0.hc)]; exact S0.gc, g.sm _ _ S0.hm, g.sm _ _ S0.hc, g.sm _ _ S0.hl, S0.cl, S0.nc, S0.nl, S0.ge, S0.t0⟩, ‹t0 ≤ T›⟩
  unfold uni at h
  cases e : F b with
  | none =>
    rw [e] at h
    exact g.sm _ _ (S0.sm _ _ h)
  | some u =>
    rw [e] at h
    cases h
    exact N.sm _ _ e
def spOdd2 (K : PySem.W.Frag) : Sp := fun vs H Q _ => ∃ (m : Addr) (G : Hp) (T : Int), vs = [.ref m] ∧ Mst G H m T ∧ T ≤ 1000000000 ∧
  ∀ (v : V) (d : PyData) (G' H' : Hp), Same G G' → Dq K (hid G G') v d → d ∈ oddList → Mst G' H' m (T + 1) → Q v H'
section
variable {P : Program} {w : World} {K : PySem.W.Frag} {mg : Str → Option Value} {base : Heap} {f fN : Addr} {fd fdN : FuncData}
theorem ok_odd2 (F : Fun K "_law_odd" "_law_odd" sOdd f fd) (T : TxV K mg fN) (GN : FnOk P w K mg base CX0 1 fN fdN ["m", "many"] spNext) (bN : Binds K fdN ["m", "many"] []) :
    FnOk P w K mg base CX0 2 f fd ["m"] (spOdd2 K) := by
  refine F.ok scO (fun vs H Q E h => ?_) (fun cdv A outer s H vs Q E hr h => ?_)
  · obtain ⟨m, G, T, rfl, _⟩ := h
    rfl
  · obtain ⟨m, G, Tm, rfl, MM, hT, k⟩ := h
    have M := MM.bare
    have Fp0 : Gr H (fun _ => none) H := Gr.nil
    refine ⟨_, pss_cons (ps_set (i := 1) scO.nd rfl (Or.inl rfl) (pe_lst (pa_cons pe_non (pa_cons pe_int (pa_cons pe_int (pa_cons pe_int (pa_cons pe_int (pa_cons (pe_un un_neg pe_int) (pa_cons pe_int (pa_cons (pe_un un_neg pe_int) (pa_cons pe_bl (pa_cons pe_bl (pa_cons pe_str (pa_cons pe_str (pa_cons pe_str (pa_cons pe_str (pa_cons pe_str (pa_cons (pe_tup pa_nil) (pa_cons (pe_tup (pa_cons (pe_tup pa_nil) pa_nil)) (pa_cons (pe_tup (pa_cons (pe_tup (pa_cons pe_int pa_nil)) pa_nil)) pa_nil)))))))))))))))))))) (pss_cons (ps_set (i := 1) scO.nd rfl (Or.inl rfl) (pe_op op_cat (pv 1) (pe_lst (pa_cons (pe_tup (pa_cons pe_str (pa_cons pe_int pa_nil))) (pa_cons (pe_lst pa_nil) (pa_cons pe_dnewK (pa_cons (pe_op op_pow pe_int pe_int) (pa_cons (pe_tup (pa_cons pe_str pa_nil)) (pa_cons (pe_tup (pa_cons pe_int (pa_cons pe_int pa_nil))) (pa_cons (pe_tup (pa_cons pe_str (pa_cons pe_int pa_nil))) (pa_cons (pe_tup (pa_cons pe_non pa_nil)) (pa_cons (pe_tup (pa_cons pe_int pa_nil)) (pa_cons (pe_tup (pa_cons (pe_tup (pa_cons pe_int pa_nil)) (pa_cons (pe_tup (pa_cons pe_int pa_nil)) pa_nil))) pa_nil)))))))))))))
      (pss_one (ps_ret (pe_ix ix_list (pv 1) (pe_call GN hr rfl T.next T.kn bN .nil pass0 (pa_cons (pv 0) (pa_cons pe_int pa_nil))) (fun _ _ => rfl))))), ?_⟩
    refine ⟨_, rfl, ?_⟩
    refine ⟨_, rfl, ?_⟩
    refine ⟨(by show 0 ≤ sizeLine; decide), fun p1 hp1 => ?_⟩
    have Mp1 := M.grow (o := .tup []) hp1
    have Fp1 := Fp0.grow (o := .tup []) hp1
    have gp1 := M.sm.free hp1
    refine ⟨(by show 0 ≤ sizeLine; decide), fun p2 hp2 => ?_⟩
    have Mp2 := Mp1.grow (o := .tup []) hp2
    have Fp2 := Fp1.grow (o := .tup []) hp2
    have gp2 := Mp1.sm.free hp2
    refine ⟨(by show 1 ≤ sizeLine; decide), fun p3 hp3 => ?_⟩
    have Mp3 := Mp2.grow (o := .tup [.ref p2]) hp3
    have Fp3 := Fp2.grow (o := .tup [.ref p2]) hp3
    have gp3 := Mp2.sm.free hp3
    refine ⟨(by show 1 ≤ sizeLine; decide), fun p4 hp4 => ?_⟩
    have Mp4 := Mp3.grow (o := .tup [.int 1]) hp4
    have Fp4 := Fp3.grow (o := .tup [.int 1]) hp4
    have gp4 := Mp3.sm.free hp4
    refine ⟨(by show 1 ≤ sizeLine; decide), fun p5 hp5 => ?_⟩
    have Mp5 := Mp4.grow (o := .tup [.ref p4]) hp5
    have Fp5 := Fp4.grow (o := .tup [.ref p4]) hp5
    have gp5 := Mp4.sm.free hp5
    refine ⟨(by show 18 ≤ sizeLine; decide), fun p6 hp6 => ?_⟩
    have Mp6 := Mp5.grow (o := .lst [.non, .int 0, .int 1, .int 2, .int 3, .int (-1), .int 10, .int (-10), .bl true, .bl false, .str "", .str "a", .str "nil", .str "power", .str "factor", .ref p1, .ref p3, .ref p5]) hp6
    have Fp6 := Fp5.grow (o := .lst [.non, .int 0, .int 1, .int 2, .int 3, .int (-1), .int 10, .int (-10), .bl true, .bl false, .str "", .str "a", .str "nil", .str "power", .str "factor", .ref p1, .ref p3, .ref p5]) hp6
    have gp6 := Mp5.sm.free hp6
    refine ⟨_, rfl, ?_⟩
    refine ⟨(by show 2 ≤ sizeLine; decide), fun p7 hp7 => ?_⟩
    have Mp7 := Mp6.grow (o := .tup [.str "a", .int 0]) hp7
    have Fp7 := Fp6.grow (o := .tup [.str "a", .int 0]) hp7
    have gp7 := Mp6.sm.free hp7
    refine ⟨(by show 0 ≤ sizeLine; decide), fun p8 hp8 => ?_⟩
    have Mp8 := Mp7.grow (o := .lst []) hp8
    have Fp8 := Fp7.grow (o := .lst []) hp8
    have gp8 := Mp7.sm.free hp8
    refine fun p9 hp9 => ?_
    have Mp9 := Mp8.grow (o := .dK []) hp9
    have Fp9 := Fp8.grow (o := .dK []) hp9
    have gp9 := Mp8.sm.free hp9
    refine ⟨_, _, rfl, rfl, ⟨by decide, by decide, by decide⟩, ?_⟩
    refine ⟨(by show 1 ≤ sizeLine; decide), fun p10 hp10 => ?_⟩
    have Mp10 := Mp9.grow (o := .tup [.str "nil"]) hp10
    have Fp10 := Fp9.grow (o := .tup [.str "nil"]) hp10
    have gp10 := Mp9.sm.free hp10
    refine ⟨(by show 2 ≤ sizeLine; decide), fun p11 hp11 => ?_⟩
    have Mp11 := Mp10.grow (o := .tup [.int 0, .int 1]) hp11
    have Fp11 := Fp10.grow (o := .tup [.int 0, .int 1]) hp11
    have gp11 := Mp10.sm.free hp11
    refine ⟨(by show 2 ≤ sizeLine; decide), fun p12 hp12 => ?_⟩
    have Mp12 := Mp11.grow (o := .tup [.str "power", .int 1]) hp12
    have Fp12 := Fp11.grow (o := .tup [.str "power", .int 1]) hp12
    have gp12 := Mp11.sm.free hp12
    refine ⟨(by show 1 ≤ sizeLine; decide), fun p13 hp13 => ?_⟩
    have Mp13 := Mp12.grow (o := .tup [.non]) hp13
    have Fp13 := Fp12.grow (o := .tup [.non]) hp13
    have gp13 := Mp12.sm.free hp13
    refine ⟨(by show 1 ≤ sizeLine; decide), fun p14 hp14 => ?_⟩
    have Mp14 := Mp13.grow (o := .tup [.int 0]) hp14
    have Fp14 := Fp13.grow (o := .tup [.int 0]) hp14
    have gp14 := Mp13.sm.free hp14
    refine ⟨(by show 1 ≤ sizeLine; decide), fun p15 hp15 => ?_⟩
    have Mp15 := Mp14.grow (o := .tup [.int 0]) hp15
    have Fp15 := Fp14.grow (o := .tup [.int 0]) hp15
    have gp15 := Mp14.sm.free hp15
    refine ⟨(by show 1 ≤ sizeLine; decide), fun p16 hp16 => ?_⟩
    have Mp16 := Mp15.grow (o := .tup [.int 1]) hp16
    have Fp16 := Fp15.grow (o := .tup [.int 1]) hp16
    have gp16 := Mp15.sm.free hp16
    refine ⟨(by show 2 ≤ sizeLine; decide), fun p17 hp17 => ?_⟩
    have Mp17 := Mp16.grow (o := .tup [.ref p15, .ref p16]) hp17
    have Fp17 := Fp16.grow (o := .tup [.ref p15, .ref p16]) hp17
    have gp17 := Mp16.sm.free hp17
    refine ⟨(by show 10 ≤ sizeLine; decide), fun p18 hp18 => ?_⟩
    have Mp18 := Mp17.grow (o := .lst [.ref p7, .ref p8, .ref p9, .int (10 ^ 30), .ref p10, .ref p11, .ref p12, .ref p13, .ref p14, .ref p17]) hp18
    have Fp18 := Fp17.grow (o := .lst [.ref p7, .ref p8, .ref p9, .int (10 ^ 30), .ref p10, .ref p11, .ref p12, .ref p13, .ref p14, .ref p17]) hp18
    have gp18 := Mp17.sm.free hp18
    have wp6 := Mp18.sm _ _ (((same_new gp7).trans ((same_new gp8).trans ((same_new gp9).trans ((same_new gp10).trans ((same_new gp11).trans ((same_new gp12).trans ((same_new gp13).trans ((same_new gp14).trans ((same_new gp15).trans ((same_new gp16).trans ((same_new gp17).trans (same_new gp18)))))))))))) _ _ upd_same)
    have wp18 := Mp18.sm _ _ (upd_same)
    refine ⟨p6, p18, _, _, rfl, rfl, wp6, wp18, (by show 28 ≤ sizeLine; decide), fun p19 hp19 => ?_⟩
    have Mp19 := Mp18.grow (o := .lst [.non, .int 0, .int 1, .int 2, .int 3, .int (-1), .int 10, .int (-10), .bl true, .bl false, .str "", .str "a", .str "nil", .str "power", .str "factor", .ref p1, .ref p3, .ref p5, .ref p7, .ref p8, .ref p9, .int (10 ^ 30), .ref p10, .ref p11, .ref p12, .ref p13, .ref p14, .ref p17]) hp19
    have Fp19 := Fp18.grow (o := .lst [.non, .int 0, .int 1, .int 2, .int 3, .int (-1), .int 10, .int (-10), .bl true, .bl false, .str "", .str "a", .str "nil", .str "power", .str "factor", .ref p1, .ref p3, .ref p5, .ref p7, .ref p8, .ref p9, .int (10 ^ 30), .ref p10, .ref p11, .ref p12, .ref p13, .ref p14, .ref p17]) hp19
    have gp19 := Mp18.sm.free hp19
    have Sp18 := same_new (o := .lst [.non, .int 0, .int 1, .int 2, .int 3, .int (-1), .int 10, .int (-10), .bl true, .bl false, .str "", .str "a", .str "nil", .str "power", .str "factor", .ref p1, .ref p3, .ref p5, .ref p7, .ref p8, .ref p9, .int (10 ^ 30), .ref p10, .ref p11, .ref p12, .ref p13, .ref p14, .ref p17]) gp19
    have Sp17 := (same_new (o := .lst [.ref p7, .ref p8, .ref p9, .int (10 ^ 30), .ref p10, .ref p11, .ref p12, .ref p13, .ref p14, .ref p17]) gp18).trans Sp18
    have Sp16 := (same_new (o := .tup [.ref p15, .ref p16]) gp17).trans Sp17
    have Sp15 := (same_new (o := .tup [.int 1]) gp16).trans Sp16
    have Sp14 := (same_new (o := .tup [.int 0]) gp15).trans Sp15
    have Sp13 := (same_new (o := .tup [.int 0]) gp14).trans Sp14
    have Sp12 := (same_new (o := .tup [.non]) gp13).trans Sp13
    have Sp11 := (same_new (o := .tup [.str "power", .int 1]) gp12).trans Sp12
    have Sp10 := (same_new (o := .tup [.int 0, .int 1]) gp11).trans Sp11
    have Sp9 := (same_new (o := .tup [.str "nil"]) gp10).trans Sp10
    have Sp8 := (same_new (o := .dK []) gp9).trans Sp9
    have Sp7 := (same_new (o := .lst []) gp8).trans Sp8
    have Sp6 := (same_new (o := .tup [.str "a", .int 0]) gp7).trans Sp7
    have Sp5 := (same_new (o := .lst [.non, .int 0, .int 1, .int 2, .int 3, .int (-1), .int 10, .int (-10), .bl true, .bl false, .str "", .str "a", .str "nil", .str "power", .str "factor", .ref p1, .ref p3, .ref p5]) gp6).trans Sp6
    have Sp4 := (same_new (o := .tup [.ref p4]) gp5).trans Sp5
    have Sp3 := (same_new (o := .tup [.int 1]) gp4).trans Sp4
    have Sp2 := (same_new (o := .tup [.ref p2]) gp3).trans Sp3
    have Sp1 := (same_new (o := .tup []) gp2).trans Sp2
    have S0 := (same_new (o := .tup []) gp1).trans Sp1
    have up1 := Sp1 _ _ upd_same
    have up2 := Sp2 _ _ upd_same
    have up3 := Sp3 _ _ upd_same
    have up4 := Sp4 _ _ upd_same
    have up5 := Sp5 _ _ upd_same
    have up6 := Sp6 _ _ upd_same
    have up7 := Sp7 _ _ upd_same
    have up8 := Sp8 _ _ upd_same
    have up9 := Sp9 _ _ upd_same
    have up10 := Sp10 _ _ upd_same
    have up11 := Sp11 _ _ upd_same
    have up12 := Sp12 _ _ upd_same
    have up13 := Sp13 _ _ upd_same
    have up14 := Sp14 _ _ upd_same
    have up15 := Sp15 _ _ upd_same
    have up16 := Sp16 _ _ upd_same
    have up17 := Sp17 _ _ upd_same
    have up18 := Sp18 _ _ upd_same
    refine ⟨_, rfl, _, rfl, m, 28, _, Tm, rfl, MM.both Fp19 Mp19, hT, by decide, by decide, fun r H' r0 r1 Mz => ?_⟩
    have eL := Mz.sm _ _ (uni_r _ _ (upd_same (a := p19)))
    obtain ⟨v, hv, hm⟩ := mod_at (xs := [.non, .int 0, .int 1, .int 2, .int 3, .int (-1), .int 10, .int (-10), .bl true, .bl false, .str "", .str "a", .str "nil", .str "power", .str "factor", .ref p1, .ref p3, .ref p5, .ref p7, .ref p8, .ref p9, .int (10 ^ 30), .ref p10, .ref p11, .ref p12, .ref p13, .ref p14, .ref p17]) (j := r) r0 r1
    refine ⟨p19, _, r, v, rfl, rfl, SqL.of eL, hv, ?_⟩
    have all : Paired (Dq K _) _ oddList := (.cons (.inl .non) (.cons (.inl (.int _)) (.cons (.inl (.int _)) (.cons (.inl (.int _)) (.cons (.inl (.int _)) (.cons (.inl (.int _)) (.cons (.inl (.int _)) (.cons (.inl (.int _)) (.cons (.inl (.bl _)) (.cons (.inl (.bl _)) (.cons (.inl (.str _)) (.cons (.inl (.str _)) (.cons (.inl (.str _)) (.cons (.inl (.str _)) (.cons (.inl (.str _)) (.cons (.inl (.tup (SqT.of up1) .nil)) (.cons (.inl (.tup (SqT.of up3) (.cons (.tup (SqT.of up2) .nil) .nil))) (.cons (.inl (.tup (SqT.of up5) (.cons (.tup (SqT.of up4) (.cons (.int _) .nil)) .nil))) (.cons (.inl (.tup (SqT.of up7) (.cons (.str _) (.cons (.int _) .nil)))) (.cons (.inl (.lst (SqL.of up8) .nil)) (.cons (.inr (.dct up9)) (.cons (.inl (.int _)) (.cons (.inl (.tup (SqT.of up10) (.cons (.str _) .nil))) (.cons (.inl (.tup (SqT.of up11) (.cons (.int _) (.cons (.int _) .nil)))) (.cons (.inl (.tup (SqT.of up12) (.cons (.str _) (.cons (.int _) .nil)))) (.cons (.inl (.tup (SqT.of up13) (.cons .non .nil))) (.cons (.inl (.tup (SqT.of up14) (.cons (.int _) .nil))) (.cons (.inl (.tup (SqT.of up17) (.cons (.tup (SqT.of up15) (.cons (.int _) .nil)) (.cons (.tup (SqT.of up16) (.cons (.int _) .nil)) .nil)))) .nil))))))))))))))))))))))))))))
    obtain ⟨d, hd, dq⟩ := pick_of all v hm
    exact k v d _ H' (uni_l Fp19 MM.sm) (dq.same (uni_hid Fp19 MM.sm)) hd Mz
end
end G

set_option Elab.async false
set_option maxRecDepth 100000
set_option pp.maxSteps 300
namespace G
open PySem L2 PySem.Spec PyProof.Rows
def spBent2 (K : PySem.W.Frag) (n : Nat) : Sp := fun vs H Q _ => ∃ (m : Addr) (G : Hp) (T : Int) (v : V) (d : PyData) (W : Nat), vs = [.ref m, v] ∧ Mst G H m T ∧ T + 10 * ((n : Int) + 1) ≤ 900000000 ∧ Pt K G v d ∧ Nice W n d ∧ n ≤ 10 ∧ W ≤ 3000 ∧
  ∀ (v' : V) (d' : PyData) (G' H' : Hp), Same G G' → Dq K (hid G G') v' d' → Nice (2 * W + 200) (n + 3) d' → Mst G' H' m (T + 10 * ((n : Int) + 1)) → Q v' H'
section
variable {P : Program} {w : World} {K : PySem.W.Frag} {mg : Str → Option Value} {base : Heap} {f fN fO : Addr} {fd fdN fdO : FuncData}
theorem ok_bent2 (F : Fun K "_law_bent" "_law_bent" sBent f fd) (T : TxBe K mg fN fO f) (GN : FnOk P w K mg base CX0 1 fN fdN ["m", "many"] spNext) (bN : Binds K fdN ["m", "many"] [])
    (GO : FnOk P w K mg base CX0 2 fO fdO ["m"] (spOdd2 K)) (bO : Binds K fdO ["m"] []) (bB : Binds K fd ["m", "thing"] []) :
    ∀ n : Nat, FnOk P w K mg base CX0 (3 + n) f fd ["m", "thing"] (spBent2 K n)
  | 0 => by
    refine F.ok (k := 2) scE (fun vs H Q E h => ?_) (fun cdv A outer s H vs Q E hr h => ?_)
    · obtain ⟨m, G, T, v, d, W, rfl, _⟩ := h
      rfl
    have hr2 := hr
    have hr1 : Room 1 _ := hr.mono (by decide)
    have h64 := hu64 hr
    obtain ⟨m, G, Tm, v, d, W, rfl, M, hT, hp, hn, hn10, hW, k⟩ := h
    refine ⟨_, pss_cons (ps_if (pw_and (pt_val (pe_callB call_isi (by rfl) T.isi bt_isi (pa_cons (pv 1) (pa_cons (pe_bltn (v := .ty "str") (by rfl) T.str bt_str rfl) pa_nil)))) (pw_and1 (pt_cmpR op_eq (pe_call GN hr1 (by rfl) T.next T.kn bN .nil pass0 (pa_cons (pv 0) (pa_cons pe_int pa_nil))) pe_int (nomark _)))).pt pss_never pss_nil)
      (pss_cons (ps_if (pw_and (pt_val (pe_callB call_isi (by rfl) T.isi bt_isi (pa_cons (pv 1) (pa_cons (pe_bltn (v := .ty "int") (by rfl) T.int boot_int rfl) pa_nil)))) (pw_and (pt_not (pt_val (pe_callB call_isi (by rfl) T.isi bt_isi (pa_cons (pv 1) (pa_cons (pe_bltn (v := .ty "bool") (by rfl) T.bool bt_bool rfl) pa_nil))))) (pw_and1 (pt_cmpR op_eq (pe_call GN hr1 (by rfl) T.next T.kn bN .nil pass0 (pa_cons (pv 0) (pa_cons pe_int pa_nil))) pe_int (nomark _))))).pt
        (pss_one (ps_ret (pe_op op_add (pv 1) (pe_ix ix_list (pe_lst (pa_cons pe_int (pa_cons (pe_un un_neg pe_int) (pa_cons pe_int (pa_cons (pe_un un_neg pe_int) (pa_cons pe_int (pa_cons (pe_un un_neg pe_int) pa_nil))))))) (pe_call GN hr1 (by rfl) T.next T.kn bN .nil pass0 (pa_cons (pv 0) (pa_cons pe_int pa_nil))) (fun _ _ => rfl))))) pss_nil)
      (pss_cons (ps_if (pw_or (pt_not (pt_val (pe_callB call_isi (by rfl) T.isi bt_isi (pa_cons (pv 1) (pa_cons (pe_bltn (v := .ty "tuple") (by rfl) T.tup bt_tup rfl) pa_nil))))) (pw_or (pt_cmpR (op_eqT0 h64) (pv 1) (pe_tup pa_nil) (nomark _)) (pw_or1 (pt_cmpR op_eq (pe_call GN hr1 (by rfl) T.next T.kn bN .nil pass0 (pa_cons (pv 0) (pa_cons pe_int pa_nil))) pe_int (nomark _))))).pt (pss_one (ps_ret (pe_call GO hr2 (by rfl) T.odd T.ko bO .nil pass0 (pa_cons (pv 0) pa_nil)))) pss_nil)
      (pss_cons (ps_par (i := 2) (j := 3) rfl scE.nd rfl rfl (by decide) rfl rfl (pa_cons (pe_call GN hr1 (by rfl) T.next T.kn bN .nil pass0 (pa_cons (pv 0) (pa_cons (pe_callB call_len_seq (by rfl) T.len PySem.boot_len (pa_cons (pv 1) pa_nil)) pa_nil))) (pa_cons (pe_call GN hr1 (by rfl) T.next T.kn bN .nil pass0 (pa_cons (pv 0) (pa_cons pe_int pa_nil))) pa_nil)) rfl)
      (pss_cons (ps_if (pt_cmpR op_eq (pv 3) pe_int (nomark _)) (pss_one (ps_ret (pe_op op_catA (pe_slice sl_tupA (pv 1) po_none (po_some (pv 2))) (pe_slice sl_tupA (pv 1) (po_some (pe_op op_add (pv 2) pe_int)) po_none)))) pss_nil)
      (pss_cons (ps_if (pt_cmpR op_eq (pv 3) pe_int (nomark _)) (pss_one (ps_ret (pe_op op_catA (pv 1) (pe_slice sl_tupA (pv 1) (po_some (pv 2)) (po_some (pe_op op_add (pv 2) pe_int)))))) pss_nil)
      (pss_cons (ps_if (pt_cmpR op_eq (pv 3) pe_int (nomark _)) (pss_one (ps_ret (pe_callTy call_list_of (by rfl) T.list boot_list (pa_cons (pv 1) pa_nil)))) pss_nil)
      (pss_cons (ps_if (pt_cmpR op_eq (pv 3) pe_int (nomark _)) (pss_one (ps_ret (pe_op op_catA (pe_op op_catA (pe_slice sl_tupA (pv 1) po_none (po_some (pv 2))) (pe_tup (pa_cons (pe_call GO hr2 (by rfl) T.odd T.ko bO .nil pass0 (pa_cons (pv 0) pa_nil)) pa_nil))) (pe_slice sl_tupA (pv 1) (po_some (pv 2)) po_none)))) pss_nil)
      (pss_cons (ps_if (pt_cmpR op_eq (pv 3) pe_int (nomark _)) (pss_one (ps_ret (pe_revT (pv 1)))) pss_nil)
      pss_never)))))))), ?_⟩
    have fin : ∀ (v' : V) (d' : PyData) (G' H' : Hp) (T' : Int), Same G G' → Dq K (hid G G') v' d' → Nice (2 * W + 200) (0 + 3) d' → Mst G' H' m T' → T' ≤ Tm + 10 * (((0 : Nat) : Int) + 1) → Q v' H' :=
      fun v' d' G' H' T' a1 a2 a3 a4 a5 => k v' d' G' H' a1 a2 a3 (a4.mono a5)
    have odd : ∀ (G1 H1 : Hp) (T1 : Int), Same G G1 → Mst G1 H1 m T1 → T1 + 1 ≤ Tm + 10 * (((0 : Nat) : Int) + 1) → spOdd2 K [.ref m] H1 Q E0 := fun G1 H1 T1 a1 a2 a3 =>
      ⟨m, G1, T1, rfl, a2, by omega, fun v' d' G' H' b1 b2 b3 b4 => fin v' d' G' H' (T1 + 1) (a1.trans b1) (b2.same (hid_le a1 (Same.refl _))) ((odd_nice d' b3).mono (by omega) (by omega)) b4 a3⟩
    cases hp with
    | int i hi =>
      have dq : ∀ H1 : Hp, Dq K H1 (.int i) (.int i) := fun _ => .inl (.int i)
      refine ⟨_, rfl, ?_⟩
      refine ⟨_, _, _, _, _, rfl, .ty _, ty_dq (dq _), kS _, ?_⟩
      refine ⟨_, rfl, ?_⟩
      refine iteF ?_
      refine iteF ?_
      refine ⟨_, rfl, ?_⟩
      refine ⟨_, _, _, _, _, rfl, .ty _, ty_dq (dq _), kI _, ?_⟩
      refine ⟨_, rfl, ?_⟩
      refine iteT ?_
      refine ⟨_, rfl, ?_⟩
      refine ⟨_, _, _, _, _, rfl, .ty _, ty_dq (dq _), kBo _, ?_⟩
      refine ⟨_, rfl, ?_⟩
      refine iteT ?_
      refine ⟨_, rfl, m, 2, G, Tm, rfl, M, by omega, by decide, by decide, fun r H1 r0 r1 M1 => ⟨rfl, _, rfl, ?_⟩⟩
      refine ite2 (fun _ => ?_) (fun _ => ?_)
      · refine ⟨_, rfl, ⟨_, rfl, ⟨_, rfl, ⟨_, rfl, (by show 6 ≤ sizeLine; decide), fun p hp => ?_⟩⟩⟩⟩
        have M2 := M1.grow (o := .lst six) hp
        refine ⟨_, rfl, m, 6, _, Tm + 1, rfl, M2, by omega, by decide, by decide, fun r' H2 q0 q1 M3 => ?_⟩
        have e := M3.sm _ _ (upd_same (a := p))
        obtain ⟨v, hv, hm⟩ := mod_at (xs := six) (j := r') q0 q1
        obtain ⟨z, rfl, hz⟩ := six_small v hm
        refine ⟨p, _, r', _, rfl, rfl, SqL.of e, hv, _, _, rfl, rfl, ?_⟩
        have small : (i + z).natAbs < 2 ^ 13 := Nat.lt_of_le_of_lt (show (i + z).natAbs ≤ 1010 by omega) (by decide)
        exact fin _ (.int (i + z)) _ _ _ (same_new (M1.sm.free hp)) (.inl (.int _)) ((nice_int small).mono (by omega) (by omega)) M3 (by omega)
      · refine ⟨_, rfl, ?_⟩
        refine ⟨_, _, _, _, _, rfl, .ty _, ty_dq (dq _), kTu _, ?_⟩
        refine ⟨_, rfl, ?_⟩
        refine iteT ?_
        exact iteT ⟨_, rfl, odd G H1 (Tm + 1) (Same.refl _) M1 (by omega)⟩
    | @tup a xs ds ht ha =>
      exact absurd hn.dp (by simp [PyData.depth])
  | n + 1 => by
    have GB := ok_bent2 F T GN bN GO bO bB n
    refine F.ok (k := 3 + n) scE (fun vs H Q E h => ?_) (fun cdv A outer s H vs Q E hr h => ?_)
    · obtain ⟨m, G, T, v, d, W, rfl, _⟩ := h
      rfl
    have hrB := hr
    have hr2 : Room 2 _ := hr.mono (by omega)
    have hr1 : Room 1 _ := hr.mono (by omega)
    have h64 := hu64 hr
    obtain ⟨m, G, Tm, v, d, W, rfl, M, hT, hp, hn, hn10, hW, k⟩ := h
    refine ⟨_, pss_cons (ps_if (pw_and (pt_val (pe_callB call_isi (by rfl) T.isi bt_isi (pa_cons (pv 1) (pa_cons (pe_bltn (v := .ty "str") (by rfl) T.str bt_str rfl) pa_nil)))) (pw_and1 (pt_cmpR op_eq (pe_call GN hr1 (by rfl) T.next T.kn bN .nil pass0 (pa_cons (pv 0) (pa_cons pe_int pa_nil))) pe_int (nomark _)))).pt pss_never pss_nil)
      (pss_cons (ps_if (pw_and (pt_val (pe_callB call_isi (by rfl) T.isi bt_isi (pa_cons (pv 1) (pa_cons (pe_bltn (v := .ty "int") (by rfl) T.int boot_int rfl) pa_nil)))) (pw_and (pt_not (pt_val (pe_callB call_isi (by rfl) T.isi bt_isi (pa_cons (pv 1) (pa_cons (pe_bltn (v := .ty "bool") (by rfl) T.bool bt_bool rfl) pa_nil))))) (pw_and1 (pt_cmpR op_eq (pe_call GN hr1 (by rfl) T.next T.kn bN .nil pass0 (pa_cons (pv 0) (pa_cons pe_int pa_nil))) pe_int (nomark _))))).pt
        (pss_one (ps_ret (pe_op op_add (pv 1) (pe_ix ix_list (pe_lst (pa_cons pe_int (pa_cons (pe_un un_neg pe_int) (pa_cons pe_int (pa_cons (pe_un un_neg pe_int) (pa_cons pe_int (pa_cons (pe_un un_neg pe_int) pa_nil))))))) (pe_call GN hr1 (by rfl) T.next T.kn bN .nil pass0 (pa_cons (pv 0) (pa_cons pe_int pa_nil))) (fun _ _ => rfl))))) pss_nil)
      (pss_cons (ps_if (pw_or (pt_not (pt_val (pe_callB call_isi (by rfl) T.isi bt_isi (pa_cons (pv 1) (pa_cons (pe_bltn (v := .ty "tuple") (by rfl) T.tup bt_tup rfl) pa_nil))))) (pw_or (pt_cmpR (op_eqT0 h64) (pv 1) (pe_tup pa_nil) (nomark _)) (pw_or1 (pt_cmpR op_eq (pe_call GN hr1 (by rfl) T.next T.kn bN .nil pass0 (pa_cons (pv 0) (pa_cons pe_int pa_nil))) pe_int (nomark _))))).pt (pss_one (ps_ret (pe_call GO hr2 (by rfl) T.odd T.ko bO .nil pass0 (pa_cons (pv 0) pa_nil)))) pss_nil)
      (pss_cons (ps_par (i := 2) (j := 3) rfl scE.nd rfl rfl (by decide) rfl rfl (pa_cons (pe_call GN hr1 (by rfl) T.next T.kn bN .nil pass0 (pa_cons (pv 0) (pa_cons (pe_callB call_len_seq (by rfl) T.len PySem.boot_len (pa_cons (pv 1) pa_nil)) pa_nil))) (pa_cons (pe_call GN hr1 (by rfl) T.next T.kn bN .nil pass0 (pa_cons (pv 0) (pa_cons pe_int pa_nil))) pa_nil)) rfl)
      (pss_cons (ps_if (pt_cmpR op_eq (pv 3) pe_int (nomark _)) (pss_one (ps_ret (pe_op op_catA (pe_slice sl_tupA (pv 1) po_none (po_some (pv 2))) (pe_slice sl_tupA (pv 1) (po_some (pe_op op_add (pv 2) pe_int)) po_none)))) pss_nil)
      (pss_cons (ps_if (pt_cmpR op_eq (pv 3) pe_int (nomark _)) (pss_one (ps_ret (pe_op op_catA (pv 1) (pe_slice sl_tupA (pv 1) (po_some (pv 2)) (po_some (pe_op op_add (pv 2) pe_int)))))) pss_nil)
      (pss_cons (ps_if (pt_cmpR op_eq (pv 3) pe_int (nomark _)) (pss_one (ps_ret (pe_callTy call_list_of (by rfl) T.list boot_list (pa_cons (pv 1) pa_nil)))) pss_nil)
      (pss_cons (ps_if (pt_cmpR op_eq (pv 3) pe_int (nomark _)) (pss_one (ps_ret (pe_op op_catA (pe_op op_catA (pe_slice sl_tupA (pv 1) po_none (po_some (pv 2))) (pe_tup (pa_cons (pe_call GO hr2 (by rfl) T.odd T.ko bO .nil pass0 (pa_cons (pv 0) pa_nil)) pa_nil))) (pe_slice sl_tupA (pv 1) (po_some (pv 2)) po_none)))) pss_nil)
      (pss_cons (ps_if (pt_cmpR op_eq (pv 3) pe_int (nomark _)) (pss_one (ps_ret (pe_revT (pv 1)))) pss_nil)
      (pss_one (ps_ret (pe_op op_catA (pe_op op_catA (pe_slice sl_tupA (pv 1) po_none (po_some (pv 2))) (pe_tup (pa_cons (pe_call GB hrB (by rfl) T.bent T.kb bB .nil pass0 (pa_cons (pv 0) (pa_cons (pe_ix ix_tup (pv 1) (pv 2) (fun _ _ => rfl)) pa_nil))) pa_nil))) (pe_slice sl_tupA (pv 1) (po_some (pe_op op_add (pv 2) pe_int)) po_none)))))))))))), ?_⟩
    have fin : ∀ (v' : V) (d' : PyData) (G' H' : Hp) (T' : Int), Same G G' → Dq K (hid G G') v' d' → Nice (2 * W + 200) (n + 1 + 3) d' → Mst G' H' m T' → T' ≤ Tm + 10 * (((n + 1 : Nat) : Int) + 1) → Q v' H' :=
      fun v' d' G' H' T' a1 a2 a3 a4 a5 => k v' d' G' H' a1 a2 a3 (a4.mono a5)
    have odd : ∀ (G1 H1 : Hp) (T1 : Int), Same G G1 → Mst G1 H1 m T1 → T1 + 1 ≤ Tm + 10 * (((n + 1 : Nat) : Int) + 1) → spOdd2 K [.ref m] H1 Q E0 := fun G1 H1 T1 a1 a2 a3 =>
      ⟨m, G1, T1, rfl, a2, by omega, fun v' d' G' H' b1 b2 b3 b4 => fin v' d' G' H' (T1 + 1) (a1.trans b1) (b2.same (hid_le a1 (Same.refl _))) ((odd_nice d' b3).mono (by omega) (by omega)) b4 a3⟩
    cases hp with
    | int i hi =>
      have dq : ∀ H1 : Hp, Dq K H1 (.int i) (.int i) := fun _ => .inl (.int i)
      refine ⟨_, rfl, ?_⟩
      refine ⟨_, _, _, _, _, rfl, .ty _, ty_dq (dq _), kS _, ?_⟩
      refine ⟨_, rfl, ?_⟩
      refine iteF ?_
      refine iteF ?_
      refine ⟨_, rfl, ?_⟩
      refine ⟨_, _, _, _, _, rfl, .ty _, ty_dq (dq _), kI _, ?_⟩
      refine ⟨_, rfl, ?_⟩
      refine iteT ?_
      refine ⟨_, rfl, ?_⟩
      refine ⟨_, _, _, _, _, rfl, .ty _, ty_dq (dq _), kBo _, ?_⟩
      refine ⟨_, rfl, ?_⟩
      refine iteT ?_
      refine ⟨_, rfl, m, 2, G, Tm, rfl, M, by omega, by decide, by decide, fun r H1 r0 r1 M1 => ⟨rfl, _, rfl, ?_⟩⟩
      refine ite2 (fun _ => ?_) (fun _ => ?_)
      · refine ⟨_, rfl, ⟨_, rfl, ⟨_, rfl, ⟨_, rfl, (by show 6 ≤ sizeLine; decide), fun p hp => ?_⟩⟩⟩⟩
        have M2 := M1.grow (o := .lst six) hp
        refine ⟨_, rfl, m, 6, _, Tm + 1, rfl, M2, by omega, by decide, by decide, fun r' H2 q0 q1 M3 => ?_⟩
        have e := M3.sm _ _ (upd_same (a := p))
        obtain ⟨v, hv, hm⟩ := mod_at (xs := six) (j := r') q0 q1
        obtain ⟨z, rfl, hz⟩ := six_small v hm
        refine ⟨p, _, r', _, rfl, rfl, SqL.of e, hv, _, _, rfl, rfl, ?_⟩
        have small : (i + z).natAbs < 2 ^ 13 := Nat.lt_of_le_of_lt (show (i + z).natAbs ≤ 1010 by omega) (by decide)
        exact fin _ (.int (i + z)) _ _ _ (same_new (M1.sm.free hp)) (.inl (.int _)) ((nice_int small).mono (by omega) (by omega)) M3 (by omega)
      · refine ⟨_, rfl, ?_⟩
        refine ⟨_, _, _, _, _, rfl, .ty _, ty_dq (dq _), kTu _, ?_⟩
        refine ⟨_, rfl, ?_⟩
        refine iteT ?_
        exact iteT ⟨_, rfl, odd G H1 (Tm + 1) (Same.refl _) M1 (by omega)⟩
    | @tup a xs ds ht ha =>
      have pr := of_ptAll ha
      have ln := pr_len pr
      have pt : ∀ {G1 : Hp}, Same G G1 → Pt K G1 (.ref a) (.tuple ds) := fun s => Pt.same s (.tup ht ha)
      have nl : NiceL W n ds := niceL_of hn
      have dq : ∀ {G1 H1 : Hp} {T1 : Int}, Same G G1 → Mst G1 H1 m T1 → Dq K H1 (.ref a) (.tuple ds) := fun s M => .inl (Pt.dp ((pt s).same M.sm))
      refine ⟨_, rfl, ?_⟩
      refine ⟨_, _, _, _, _, rfl, .ty _, ty_dq (dq (Same.refl _) M), kS _, ?_⟩
      refine ⟨_, rfl, ?_⟩
      refine iteF ?_
      refine iteF ?_
      refine ⟨_, rfl, ?_⟩
      refine ⟨_, _, _, _, _, rfl, .ty _, ty_dq (dq (Same.refl _) M), kI _, ?_⟩
      refine ⟨_, rfl, ?_⟩
      refine iteF ?_
      refine iteF ?_
      refine ⟨_, rfl, ?_⟩
      refine ⟨_, _, _, _, _, rfl, .ty _, ty_dq (dq (Same.refl _) M), kTu _, ?_⟩
      refine ⟨_, rfl, ?_⟩
      refine iteF ?_
      refine ⟨_, rfl, Nat.zero_le _, fun p0 h0 => ?_⟩
      have M0 := M.grow (o := .tup []) h0
      have s0 := same_new (o := .tup []) (M.sm.free h0)
      refine ⟨_, ds, p0, rfl, (pt s0).same M0.sm, by have := hn.dp; omega, rfl, SqT.of upd_same, _, rfl, ?_⟩
      by_cases emp : ds.isEmpty = true
      · rw [emp]
        exact iteT (iteT ⟨_, rfl, odd _ _ Tm s0 M0 (by omega)⟩)
      · rw [Bool.not_eq_true] at emp
        rw [emp]
        refine iteF ?_
        refine ⟨_, rfl, m, 6, _, Tm, rfl, M0, by omega, by decide, by decide, fun r H1 r0 r1 M1 => ⟨rfl, _, rfl, ?_⟩⟩
        refine ite2 (fun _ => ⟨_, rfl, odd _ _ _ s0 M1 (by omega)⟩) (fun _ => ?_)
        have ne : 0 < xs.length := by
          rw [ln]
          cases ds with
          | nil => cases emp
          | cons _ _ => exact Nat.succ_pos _
        have hz : xs.length ≤ 3000 := by
          rw [ln]
          have q := nl.wt
          have q2 : ∀ l : List PyData, l.length ≤ PyData.weightAll l := fun l => by
            induction l with
            | nil => exact Nat.zero_le _
            | cons d l ih =>
              simp only [PyData.weightAll, List.length_cons]
              omega
          have := q2 ds
          omega
        have line : ∀ z : Nat, z ≤ 7000 → z ≤ sizeLine := fun z h => Nat.le_trans h (by decide)
        refine ⟨_, rfl, _, rfl, a, _, rfl, .inr (sqT_same (s0.trans M1.sm) ht), m, (xs.length : Int), _, Tm + 1, rfl, M1, by omega, by omega, by omega, fun rj H2 j0 j1 M2 => ?_⟩
        refine ⟨_, rfl, m, 11, _, Tm + 1 + 1, rfl, M2, by omega, by decide, by decide, fun rp H3 _ _ M3 => ⟨_, _, rfl, ?_⟩⟩
        obtain ⟨j, rfl⟩ : ∃ j : Nat, rj = (j : Int) := ⟨rj.toNat, by omega⟩
        have hj : j < xs.length := by omega
        have hT := sqT_same s0 ht
        obtain ⟨x, hx⟩ : ∃ x, xs[j]? = some x := ⟨xs[j], by simp [hj]⟩
        obtain ⟨e, he, hpe⟩ := pr_get pr hx
        obtain ⟨wa, wb, wc, na, nb, nc, nw⟩ := niceL_split nl he
        have up : ∀ {G1 : Hp} {l : List V} {es : List PyData}, Same G G1 → Paired (Pt K G) l es → Paired (Pt K G1) l es := fun s h => pr_map (fun _ _ => Pt.same s) h
        have cj : (j : Int) + 1 = ((j + 1 : Nat) : Int) := by omega
        -- without one
        refine ⟨_, rfl, rfl, _, rfl, ite2 (fun _ => ?_) (fun _ => ?_)⟩
        · refine ⟨_, rfl, _, rfl, _, rfl, sl_any M3 hT fun c1 G1 K1 t1 N1 e1 => ?_⟩
          refine ⟨_, rfl, _, rfl, _, _, rfl, rfl, _, rfl, ?_⟩
          dsimp only [tNoPart]
          refine sl_any N1 (sqT_same t1 hT) fun c2 G2 K2 t2 N2 e2 => ?_
          rw [cut_to (Nat.le_of_lt hj)] at e1
          rw [cj, cut_from hj] at e2
          refine cat_any N2 (sqT_same t2 e1) e2 (line _ (by rw [List.length_take, List.length_drop]; omega)) fun c3 G3 K3 t3 N3 e3 => ?_
          have sg := ((s0.trans t1).trans t2).trans t3
          exact fin _ (.tuple (ds.take j ++ ds.drop (j + 1))) _ _ _ sg (.inl (Pt.dp (Pt.ts (hid_ts sg) (.tup e3 (ptAll_of (up sg (pr_app (pr_take j pr) (pr_drop (j + 1) pr))))))))
            ((nice_tup (niceL_app na nc)).mono (by omega) (by omega)) N3 (by omega)
        -- one twice
        refine ⟨_, rfl, rfl, _, rfl, ite2 (fun _ => ?_) (fun _ => ?_)⟩
        · refine ⟨_, rfl, _, rfl, _, rfl, _, rfl, _, rfl, _, _, rfl, rfl, _, rfl, sl_any M3 hT fun c1 G1 K1 t1 N1 e1 => ?_⟩
          rw [cut_one hj] at e1
          refine cat_any N1 (sqT_same t1 hT) e1 (line _ (by rw [List.length_take, List.length_drop]; omega)) fun c3 G3 K3 t3 N3 e3 => ?_
          have sg := (s0.trans t1).trans t3
          exact fin _ (.tuple (ds ++ (ds.drop j).take 1)) _ _ _ sg (.inl (Pt.dp (Pt.ts (hid_ts sg) (.tup e3 (ptAll_of (up sg (pr_app pr (pr_take 1 (pr_drop j pr)))))))))
            ((nice_tup (niceL_app nl (niceL_take 1 (niceL_drop j nl)))).mono (by omega) (by omega)) N3 (by omega)
        -- a list
        refine ⟨_, rfl, rfl, _, rfl, ite2 (fun _ => ?_) (fun _ => ?_)⟩
        · refine ⟨_, rfl, a, xs, rfl, .inr (sqT_same M3.sm hT), fun p hp => ?_⟩
          have sg := s0.trans (same_new (o := .lst xs) (M3.sm.free hp))
          exact fin _ (.list ds) _ _ _ sg (.inl (.lst (SqL.of (by rw [hid_new (s0.free (M3.sm.free hp))]; exact upd_same)) (dpAll_of (pr_map (fun _ _ z => (Pt.ts (hid_ts sg) z).dp) (up sg pr))))) ((nice_lst nl).mono (by omega) (by omega)) (M3.grow hp) (by omega)
        -- one more thing
        refine ⟨_, rfl, rfl, _, rfl, ite2 (fun _ => ?_) (fun _ => ?_)⟩
        · refine ⟨_, rfl, _, rfl, _, rfl, sl_any M3 hT fun c1 G1 K1 t1 N1 e1 => ?_⟩
          refine ⟨_, rfl, m, G1, _, rfl, N1, by omega, fun ov od G2 K2 t2 od1 od2 N2 => ?_⟩
          refine ⟨(by show 1 ≤ sizeLine; decide), fun p hp => ?_⟩
          have N3 := N2.grow (o := .tup [ov]) hp
          have t3 := same_new (o := .tup [ov]) (N2.sm.free hp)
          rw [cut_to (Nat.le_of_lt hj)] at e1
          refine cat_any N3 (sqT_same (t2.trans t3) e1) (SqT.of upd_same) (line _ (by rw [List.length_take]; show _ + 1 ≤ _; omega)) fun c4 G4 K4 t4 N4 e4 => ?_
          refine ⟨_, rfl, _, rfl, _, rfl, ?_⟩
          dsimp only [tNoPart]
          refine sl_any N4 (sqT_same (((t1.trans t2).trans t3).trans t4) hT) fun c5 G5 K5 t5 N5 e5 => ?_
          rw [cut_from (Nat.le_of_lt hj)] at e5
          refine cat_any N5 (sqT_same t5 e4) e5 (line _ (by rw [List.length_append, List.length_take, List.length_drop]; show _ + 1 + _ ≤ _; omega)) fun c6 G6 K6 t6 N6 e6 => ?_
          have sg := (((((s0.trans t1).trans t2).trans t3).trans t4).trans t5).trans t6
          have dqo : Dq K (hid G G6) ov od := od1.same (hid_le (s0.trans t1) (((t3.trans t4).trans t5).trans t6))
          exact fin _ (.tuple (ds.take j ++ [od] ++ ds.drop j)) _ _ _ sg (dq_tup (sqT_ts (hid_ts sg) e6) (pts_hid sg (up sg (pr_take j pr))) dqo (pts_hid sg (up sg (pr_drop j pr))))
            ((nice_tup (niceL_app (niceL_app (na.mono (Nat.le_refl _) (Nat.le_add_right _ 2)) (niceL_cons (n := 0) ((odd_nice od od2).mono (Nat.le_refl _) (by omega)) niceL_nil)) ((niceL_drop j nl).mono (Nat.le_refl _) (Nat.le_add_right _ 2)))).mono (by omega) (by omega)) N6 (by omega)
        -- turned about
        refine ⟨_, rfl, rfl, _, rfl, ite2 (fun _ => ?_) (fun _ => ?_)⟩
        · refine ⟨_, rfl, a, xs, rfl, sqT_same M3.sm hT, fun p hp => ?_⟩
          have sg := s0.trans (same_new (o := .tup xs.reverse) (M3.sm.free hp))
          exact fin _ (.tuple ds.reverse) _ _ _ sg (.inl (Pt.dp (Pt.ts (hid_ts sg) (.tup (SqT.of upd_same) (ptAll_of (up sg (pr_rev pr))))))) ((nice_tup (niceL_rev nl)).mono (by omega) (by omega)) (M3.grow hp) (by omega)
        -- one of its things bent
        refine ⟨_, rfl, _, rfl, _, rfl, sl_any M3 hT fun c1 G1 K1 t1 N1 e1 => ?_⟩
        refine ⟨_, rfl, _, rfl, _, rfl, a, xs, (j : Int), x, rfl, rfl, sqT_same (t1.trans N1.sm) hT, atI_nat hx, ?_⟩
        refine ⟨m, G1, _, x, e, wb, rfl, N1, by omega, hpe.same (s0.trans t1), nb, by omega, by omega, fun ov od G2 K2 t2 od1 od2 N2 => ?_⟩
        refine ⟨(by show 1 ≤ sizeLine; decide), fun p hp => ?_⟩
        have N3 := N2.grow (o := .tup [ov]) hp
        have t3 := same_new (o := .tup [ov]) (N2.sm.free hp)
        rw [cut_to (Nat.le_of_lt hj)] at e1
        refine cat_any N3 (sqT_same (t2.trans t3) e1) (SqT.of upd_same) (line _ (by rw [List.length_take]; show _ + 1 ≤ _; omega)) fun c4 G4 K4 t4 N4 e4 => ?_
        refine ⟨_, rfl, _, rfl, _, _, rfl, rfl, _, rfl, ?_⟩
        dsimp only [tNoPart]
        refine sl_any N4 (sqT_same (((t1.trans t2).trans t3).trans t4) hT) fun c5 G5 K5 t5 N5 e5 => ?_
        rw [cj, cut_from hj] at e5
        refine cat_any N5 (sqT_same t5 e4) e5 (line _ (by rw [List.length_append, List.length_take, List.length_drop]; show _ + 1 + _ ≤ _; omega)) fun c6 G6 K6 t6 N6 e6 => ?_
        have sg := (((((s0.trans t1).trans t2).trans t3).trans t4).trans t5).trans t6
        have dqo : Dq K (hid G G6) ov od := od1.same (hid_le (s0.trans t1) (((t3.trans t4).trans t5).trans t6))
        exact fin _ (.tuple (ds.take j ++ [od] ++ ds.drop (j + 1))) _ _ _ sg (dq_tup (sqT_ts (hid_ts sg) e6) (pts_hid sg (up sg (pr_take j pr))) dqo (pts_hid sg (up sg (pr_drop (j + 1) pr))))
          ((nice_tup (niceL_app (niceL_app (na.mono (Nat.le_refl _) (Nat.le_add_right _ 3)) (niceL_cons (n := 0) od2 niceL_nil)) (nc.mono (Nat.le_refl _) (Nat.le_add_right _ 3)))).mono (by omega) (by omega)) N6 (by omega)
end
end G

set_option Elab.async false
set_option maxRecDepth 100000
set_option pp.maxSteps 300
namespace G
open PySem L2 PySem.Spec PyProof.Rows LamX
/-! ### nice tables -/
theorem niceL_all {k a : Nat} : ∀ {ds : List PyData}, (∀ d ∈ ds, Nice a k d) → NiceL (ds.length * (a + 1)) k ds
  | [], _ => by
    rw [List.length_nil, Nat.zero_mul]
    exact niceL_nil
  | d :: ds, h => (niceL_cons (h d (List.mem_cons_self ..)) (niceL_all fun x hx => h x (List.mem_cons_of_mem _ hx))).mono (by
      rw [List.length_cons, Nat.succ_mul]
      omega) (Nat.le_refl _)
theorem nice_row {n : Nat} {r : List Int} (h : RowOk n r) (hn : n ≤ 4) : Nice 60 1 (rowD r) := by
  refine (nice_tup (niceL_all (a := 14) (k := 0) fun d hd => ?_)).mono ?_ (Nat.le_refl _)
  · obtain ⟨x, hx, rfl⟩ := List.mem_map.mp hd
    have := h.2 x hx
    exact nice_int (by omega)
  · rw [List.length_map, h.1]
    omega
theorem nice_tab {n : Nat} {t : List (List Int)} (h : TabOk n t) (hn : n ≤ 4) : Nice 244 2 (tabD t) := by
  refine (nice_tup (niceL_all (a := 60) (k := 1) fun d hd => ?_)).mono ?_ (Nat.le_refl _)
  · obtain ⟨x, hx, rfl⟩ := List.mem_map.mp hd
    exact nice_row (h.2 x hx) hn
  · rw [List.length_map, h.1]
    omega
theorem nice_tabs {n : Nat} {ts : List (List (List Int))} (h : FamOk n ts) : Nice 735 3 (tabsD ts) := by
  have l3 := h.l3
  refine (nice_tup (niceL_all (a := 244) (k := 2) fun d hd => ?_)).mono ?_ (Nat.le_refl _)
  · obtain ⟨x, hx, rfl⟩ := List.mem_map.mp hd
    exact nice_tab (h.ok x hx) h.n4
  · rw [List.length_map]
    omega
/-! ### what is due -/
theorem find_lt {p : Nat → Bool} {n i : Nat} (h : (List.range n).find? p = some i) : i < n := by
  have := List.mem_of_find?_eq_some h
  exact List.mem_range.mp this
theorem find_no {p : Nat → Bool} {n : Nat} (h : (List.range n).find? p = none) : ∀ j, j < n → p j = false := fun j hj => by
  have := List.find?_eq_none.mp h j (List.mem_range.mpr hj)
  cases e : p j with
  | true => exact absurd e this
  | false => rfl
theorem verdictL_some {ds : List PyData} {p : Option Nat} (h : verdictL ds = some p) : p = none ∨ ∃ i, p = some i ∧ i < 3 := by
  unfold verdictL at h
  split at h
  · rename_i q
    cases e : (List.range ds.length).find? fun i => !goodAt ds i with
    | none => rw [e] at h; cases h
    | some i =>
      rw [e] at h
      cases h
      have := find_lt e
      exact .inr ⟨i, rfl, by omega⟩
  · cases h
    exact .inl rfl
theorem verdict_some {d : PyData} {p : Option Nat} (h : verdict d = some p) : p = none ∨ ∃ i, p = some i ∧ i < 3 := by
  cases d with
  | list ds => exact verdictL_some h
  | tuple ds => exact verdictL_some h
  | none => cases h; exact .inl rfl
  | bool b => cases h; exact .inl rfl
  | int i => cases h; exact .inl rfl
  | str x => cases h; exact .inl rfl
  | dict kvs => cases h; exact .inl rfl
theorem verdictL_none {ds : List PyData} (h : verdictL ds = none) : ∃ n ts, ds = ts.map tabD ∧ FamOk n ts := by
  unfold verdictL at h
  split at h
  · rename_i q
    cases e : (List.range ds.length).find? fun i => !goodAt ds i with
    | some i => rw [e] at h; cases h
    | none =>
      refine all_good q.1 q.2 fun j hj => ?_
      have z := find_no e j hj
      cases g : goodAt ds j with
      | true => rfl
      | false => rw [g] at z; cases z
  · cases h
theorem verdict_none {d : PyData} (h : verdict d = none) : ∃ n ts, itemsD d = ts.map tabD ∧ FamOk n ts := by
  cases d with
  | list ds => exact verdictL_none h
  | tuple ds => exact verdictL_none h
  | none => cases h
  | bool b => cases h
  | int i => cases h
  | str x => cases h
  | dict kvs => cases h
theorem place_sc {p : Option Nat} (h : p = none ∨ ∃ i, p = some i ∧ i < 3) : Sc (placeV p) (placeD p) := by
  rcases h with rfl | ⟨i, rfl, hi⟩
  · exact .non
  · exact .int _ (by omega)
theorem rp_small {d : PyData} (h1 : d.showable = true) (h2 : d.shown.length ≤ sizeLine) (h3 : d.depth ≤ 60) : Rp d := ⟨h1, h2, h3⟩
theorem rp_pair {p : Option Nat} (h : p = none ∨ ∃ i, p = some i ∧ i < 3) : Rp (toldD "tables" (placeD p)) := by
  rcases h with rfl | ⟨i, rfl, hi⟩
  · exact ⟨by decide +kernel, Nat.le_of_ble_eq_true (by decide +kernel), by decide +kernel⟩
  · match i, hi with
    | 0, _ => exact ⟨by decide +kernel, Nat.le_of_ble_eq_true (by decide +kernel), by decide +kernel⟩
    | 1, _ => exact ⟨by decide +kernel, Nat.le_of_ble_eq_true (by decide +kernel), by decide +kernel⟩
    | 2, _ => exact ⟨by decide +kernel, Nat.le_of_ble_eq_true (by decide +kernel), by decide +kernel⟩
theorem rp_due (d : PyData) : Rp (dueD d) := by
  unfold dueD
  cases h : verdict d with
  | none =>
    obtain ⟨n, ts, e, ok⟩ := verdict_none h
    show Rp (.tuple (itemsD d))
    rw [e]
    exact nice_rp (nice_tabs ok) (by decide) (by decide)
  | some p => exact rp_pair (verdict_some h)
/-! ### things -/
section
variable {K : PySem.W.Frag} {H : Hp}
def AllDq (K : PySem.W.Frag) (H : Hp) (xs : List V) : Prop := ∀ x ∈ xs, ∃ d, Dq K H x d
theorem allDq_nil : AllDq K H [] := fun _ h => nomatch h
theorem allDq_cons {v : V} {xs : List V} {d : PyData} (h : Dq K H v d) (t : AllDq K H xs) : AllDq K H (v :: xs) := fun u hu => by
  rcases List.mem_cons.mp hu with e | e
  · rw [e]
    exact ⟨d, h⟩
  · exact t u e
theorem allDq_app {xs ys : List V} (h : AllDq K H xs) (t : AllDq K H ys) : AllDq K H (xs ++ ys) := fun u hu => by
  rcases List.mem_append.mp hu with e | e
  · exact h u e
  · exact t u e
theorem allDq_same {H' : Hp} {xs : List V} (s : Same H H') (h : AllDq K H xs) : AllDq K H' xs := fun x hx => by
  obtain ⟨d, q⟩ := h x hx
  exact ⟨d, q.same s⟩
theorem allDq_ext {H' : Hp} {xs : List V} (s : ExtN H H') (h : AllDq K H xs) : AllDq K H' xs := fun x hx => by
  obtain ⟨d, q⟩ := h x hx
  exact ⟨d, q.ext s⟩
/-- tables, in Pt -/
theorem pt_items {v : V} {ds : List PyData} (h : Pt K H v (.tuple ds)) : ∃ a xs, v = .ref a ∧ SqT K H a xs ∧ Paired (Pt K H) xs ds := by
  cases h with
  | @tup a xs _ h1 h2 => exact ⟨a, xs, rfl, h1, of_ptAll h2⟩
theorem dq_ptup {a : Addr} {xs : List V} {ds : List PyData} (h : SqT K H a xs) (p : Paired (Pt K H) xs ds) : Dq K H (.ref a) (.tuple ds) := .inl (Pt.tup h (ptAll_of p)).dp
theorem dq_plst {a : Addr} {xs : List V} {ds : List PyData} (h : SqL K H a xs) (p : Paired (Pt K H) xs ds) : Dq K H (.ref a) (.list ds) := .inl (.lst h (ptAll_of p).dp)
theorem ddAll_app : ∀ {ds : List PyData} {xs ys : List V} {es : List PyData}, DdAll K H xs ds → DdAll K H ys es → DdAll K H (xs ++ ys) (ds ++ es)
  | [], _, _, _, h, t => by cases h; exact t
  | d :: ds, _, _, _, h, t => by
    cases h with
    | cons h1 h2 => exact .cons h1 (ddAll_app h2 t)
theorem pr_app1 {α β : Type} {F : α → β → Prop} {xs : List α} {ys : List β} {x : α} {y : β} (p : Paired F xs ys) (q : F x y) : Paired F (xs ++ [x]) (ys ++ [y]) := pr_app p (.cons q .nil)
/-- tables with one more thing at the end -/
theorem dq_more {a : Addr} {xs : List V} {ds : List PyData} {v : V} {d : PyData} (h : SqT K H a (xs ++ [v])) (p : Paired (Pt K H) xs ds) (q : Dq K H v d) : Dq K H (.ref a) (.tuple (ds ++ [d])) := by
  rcases q with q | q
  · exact .inl (.tup h (dpAll_of (pr_app1 (pr_map (fun _ _ z => z.dp) p) q)))
  · exact .inr (.tup h (ddAll_app (ptAll_of p).dd (.cons q .nil)))
/-- a list n times over, paired -/
theorem pr_rep {α β : Type} {F : α → β → Prop} {xs : List α} {ys : List β} (p : Paired F xs ys) : ∀ n : Nat, Paired F (List.replicate n xs).flatten (List.replicate n ys).flatten
  | 0 => by simpa using (Paired.nil (F := F))
  | n + 1 => by
    rw [List.replicate_succ, List.replicate_succ, List.flatten_cons, List.flatten_cons]
    exact pr_app p (pr_rep p n)
theorem pr_cut1 {α β : Type} {F : α → β → Prop} {xs : List α} {ys : List β} (p : Paired F xs ys) : Paired F (xs.take 1) (ys.take 1) := pr_take 1 p
theorem pt_all_same {H' : Hp} {xs : List V} {ds : List PyData} (s : Same H H') (p : Paired (Pt K H) xs ds) : Paired (Pt K H') xs ds := pr_map (fun _ _ z => z.same s) p
theorem pt_all_ts {H' : Hp} {xs : List V} {ds : List PyData} (s : TS H H') (p : Paired (Pt K H) xs ds) : Paired (Pt K H') xs ds := pr_map (fun _ _ z => z.ts s) p
end
theorem fits_tab {n : Nat} {d : PyData} (h : fitsT n d = true) : ∃ t, d = tabD t ∧ TabOk n t := by
  unfold fitsT at h
  rw [Bool.and_eq_true, decide_eq_true_eq] at h
  obtain ⟨t, e, ok, _, _⟩ := tab_shape h.1
  subst e
  have el : t.length = n := by
    have z : (t.map rowD).length = n := h.2
    rw [List.length_map] at z
    exact z
  subst el
  exact ⟨t, rfl, ok⟩
theorem law_fits {n : Nat} {d : PyData} (hn : 1 ≤ n) : lawTab d n = fitsT n d := by
  unfold lawTab fitsT
  rw [decide_eq_false (show ¬ n = 0 by omega), Bool.false_or]
/-! ### the law's state -/
structure StL (TT : List (Addr × Str)) (K : PySem.W.Frag) (C : Addr) (at_ af x dx : Addr) (n : Nat) (ts fs : List (List (List Int))) (m : Addr) (G H : Hp) (T : Int) : Prop where
  ms : Mst G H m T
  tb : Tabs TT G
  pt : Pt K G (.ref at_) (tabsD ts)
  pf : Pt K G (.ref af) (tabsD fs)
  fam : IsFam K C G x dx n ts
section
variable {TT : List (Addr × Str)} {K : PySem.W.Frag} {C at_ af x dx m : Addr} {n : Nat} {ts fs : List (List (List Int))} {G H H' : Hp} {T : Int}
theorem fam_in {H G : Hp} (t : TS H G) (k : ∀ b o, H b = some o → (∀ kvs, o ≠ .dK kvs) → (∀ xs, o ≠ .lst xs) → G b = some o) (h : IsFam K C H x dx n ts) : IsFam K C G x dx n ts := by
  obtain ⟨fs, tv, hx, l1, l2, l3, l4, l5, hu⟩ := h
  exact ⟨fs, tv, k _ _ hx (fun _ z => nomatch z) (fun _ z => nomatch z), l1, l2, l3, l4, l5, st_tabs _ _ _ _ t hu⟩
theorem fam_wr {p : Addr} {xs : List V} {o : HO} (h : H p = some (.lst xs)) (f : IsFam K C H x dx n ts) : IsFam K C (upd H p o) x dx n ts := by
  obtain ⟨fs, tv, hx, l1, l2, l3, l4, l5, hu⟩ := f
  exact ⟨fs, tv, by rw [upd_ne (ne_of hx h fun z => nomatch z)]; exact hx, l1, l2, l3, l4, l5, st_tabs _ _ _ _ (TS.wr h) hu⟩
/-- the state, once the family is made -/
theorem StL.made {G0 H0 : Hp} (M : Mst G0 H0 m T) (tb : Tabs TT G0) (pt : Pt K G0 (.ref at_) (tabsD ts)) (pf : Pt K G0 (.ref af) (tabsD fs)) (s : Same H0 H) (fam : IsFam K C H x dx n ts) : ∃ G', StL TT K C at_ af x dx n ts fs m G' H T := by
  obtain ⟨G', M', eg, t, sm, keep⟩ := M.ext (ext_of s)
  exact ⟨G', M', tabs_in (Tabs.ext (Tabs.ext tb M.sm) s) keep, pt.ts (ts_ext eg), pf.ts (ts_ext eg), fam_in t keep fam⟩
theorem StL.same (S : StL TT K C at_ af x dx n ts fs m G H T) (s : Same H H') : StL TT K C at_ af x dx n ts fs m G H' T := ⟨S.ms.same s, S.tb, S.pt, S.pf, S.fam⟩
theorem StL.mono {T' : Int} (S : StL TT K C at_ af x dx n ts fs m G H T) (h : T ≤ T') : StL TT K C at_ af x dx n ts fs m G H T' := ⟨S.ms.mono h, S.tb, S.pt, S.pf, S.fam⟩
theorem StL.of {G' : Hp} {T' : Int} (S : StL TT K C at_ af x dx n ts fs m G H T) (s : Same G G') (M : Mst G' H' m T') : StL TT K C at_ af x dx n ts fs m G' H' T' := ⟨M, Tabs.ext S.tb s, S.pt.same s, S.pf.same s, fam_same s S.fam⟩
theorem StL.grow {p : Addr} {o : HO} (S : StL TT K C at_ af x dx n ts fs m G H T) (h : H p = none) : StL TT K C at_ af x dx n ts fs m (upd G p o) (upd H p o) T := S.of (same_new (S.ms.sm.free h)) (S.ms.grow h)
theorem StL.ext (S : StL TT K C at_ af x dx n ts fs m G H T) (e : ExtN H H') (tb : Tabs TT H') : ∃ G', StL TT K C at_ af x dx n ts fs m G' H' T ∧ ExtN G G' ∧ TS H' G' ∧ Same G' H' := by
  obtain ⟨G', M', eg, t, sm, keep⟩ := S.ms.ext e
  exact ⟨G', ⟨M', tabs_in tb keep, S.pt.ts (ts_ext eg), S.pf.ts (ts_ext eg), fam_ext eg S.fam⟩, eg, t, sm⟩
theorem StL.tbH (S : StL TT K C at_ af x dx n ts fs m G H T) : Tabs TT H := Tabs.ext S.tb S.ms.sm
end
theorem eqT_refl (ts : List (List (List Int))) : eqT ts ts = true := SeqAt.eqv_refl _ (lay_of_shaped (shaped_tabs ts))
section
variable {K : PySem.W.Frag} {C CT : Addr}
theorem mk_any {H : Hp} {v : V} {d : PyData} {Q : Addr → Hp → Prop} {E : XK} (hd : Dq K H v d)
    (q : verdict d = none → ∀ (n : Nat) (ts : List (List (List Int))) (y dy : Addr) (H' : Hp), itemsD d = ts.map tabD → FamOk n ts → Same H H' → IsFam K C H' y dy n ts → Q y H')
    (e : ∀ p, verdict d = some p → ∀ (dd : Addr) (H' : Hp), Same H H' → H' dd = some (.xd [("place", placeV p)]) → E (.ref CT) (some dd) H') :
    ∀ y dy, H y = none → H dy = none → dy ≠ y → spInit K C CT (.ref y :: ([v] ++ [])) (upd (upd H dy (.own y)) y (.ins C dy [])) (fun v H2 => v = .non ∧ Q y H2) E := fun y dy h1 h2 h3 => by
  obtain ⟨x, dx, v', d', a1, a2, a3, a4, a5⟩ := make_any (C := C) (CT := CT) (E := E) (Q := fun v H2 => ∃ y, v = .ref y ∧ Q y H2) hd (fun hv n ts y dy H' a b c f => ⟨y, rfl, q hv n ts y dy H' a b c f⟩) e y dy h1 h2 h3
  refine ⟨x, dx, v', d', a1, a2, a3, fun hv n ts H' b1 b2 b3 b4 => ?_, a5⟩
  obtain ⟨c1, y', c2, c3⟩ := a4 hv n ts H' b1 b2 b3 b4
  cases c2
  exact ⟨c1, c3⟩
theorem mk_good {H : Hp} {v : V} {d : PyData} {Q : Addr → Hp → Prop} {E : XK} {n : Nat} {ts : List (List (List Int))} (hd : Dq K H v d) (hv : verdict d = none) (ei : itemsD d = ts.map tabD) (ok : FamOk n ts)
    (q : ∀ (y dy : Addr) (H' : Hp), Same H H' → IsFam K C H' y dy n ts → Q y H') :
    ∀ y dy, H y = none → H dy = none → dy ≠ y → spInit K C CT (.ref y :: ([v] ++ [])) (upd (upd H dy (.own y)) y (.ins C dy [])) (fun v H2 => v = .non ∧ Q y H2) E := fun y dy h1 h2 h3 => by
  obtain ⟨x, dx, v', d', a1, a2, a3, a4, a5⟩ := make_good (C := C) (CT := CT) (E := E) (Q := fun v H2 => ∃ y, v = .ref y ∧ Q y H2) hd hv ei ok (fun y dy H' c f => ⟨y, rfl, q y dy H' c f⟩) y dy h1 h2 h3
  refine ⟨x, dx, v', d', a1, a2, a3, fun hv n ts H' b1 b2 b3 b4 => ?_, a5⟩
  obtain ⟨c1, y', c2, c3⟩ := a4 hv n ts H' b1 b2 b3 b4
  cases c2
  exact ⟨c1, c3⟩
end
section
variable {G G' : Hp} {D : Addr} {ys : List V} {o : HO}
theorem dl_le : Same (del G D) G := fun b u h => by
  by_cases q : b = D
  · subst q
    rw [del_same] at h
    cases h
  · rw [del_ne q] at h
    exact h
theorem dl_mono (s : Same G G') : Same (del G D) (del G' D) := fun b u h => by
  by_cases q : b = D
  · subst q
    rw [del_same] at h
    cases h
  · rw [del_ne q] at h ⊢
    exact s _ _ h
theorem dl_hid (h : G D = some (.lst ys)) : Same (hid G G') (del G' D) := fun b u e => by
  by_cases q : b = D
  · subst q
    rw [hid_no h] at e
    cases e
  · rw [del_ne q]
    exact hid_sm _ _ e
theorem dl_upd : Same (del G D) (del (upd G D o) D) := fun b u h => by
  by_cases q : b = D
  · subst q
    rw [del_same] at h
    cases h
  · rw [del_ne q] at h ⊢
    rw [upd_ne q]
    exact h
end
theorem cutT1 {K : PySem.W.Frag} {H : Hp} {a : Addr} {xs : List V} (h : 1 ≤ xs.length) (e : SqT K H a (cutV xs none (some 1))) : SqT K H a (xs.take 1) := by
  have q := cut_to (xs := xs) (j := 1) h
  rw [← q]
  exact e
section
variable {TT : List (Addr × Str)} {K : PySem.W.Frag} {C at_ af x dx m : Addr} {n : Nat} {ts fs : List (List (List Int))} {G H : Hp} {T : Int}
/-- a list of the caller's is written -/
theorem StL.wr {p : Addr} {xs : List V} {o : HO} (S : StL TT K C at_ af x dx n ts fs m G H T) (h : G p = some (.lst xs)) : StL TT K C at_ af x dx n ts fs m (upd G p o) (upd H p o) T :=
  ⟨S.ms.write h, tabs_in S.tb fun b u e _ n2 => by
    rw [upd_ne fun z => by
      rw [z, h] at e
      cases e
      exact n2 _ rfl]
    exact e, S.pt.ts (TS.wr h), S.pf.ts (TS.wr h), fam_wr h S.fam⟩
end
theorem fits_of {n : Nat} {t : List (List Int)} (h : TabOk n t) (n1 : 1 ≤ n) (n4 : n ≤ 4) : fitsT n (tabD t) = true := by
  have q := verdict_good (ts := [t]) (n := n) ⟨n1, n4, by simp, by simp, fun x hx => by
    rw [List.mem_singleton.mp hx]
    exact h⟩
  unfold verdictL at q
  rw [if_pos (by simp)] at q
  cases e : (List.range ([t].map tabD).length).find? fun i => !goodAt ([t].map tabD) i with
  | some i => rw [e] at q; cases q
  | none =>
    have z := find_no e 0 (by simp)
    unfold goodAt at z
    unfold fitsT
    have l : lenD (tabD t) = n := by
      show (t.map rowD).length = n
      rw [List.length_map]
      exact h.1
    rw [decide_eq_true l, Bool.and_true]
    cases b : isTabD (tabD t) with
    | true => rfl
    | false =>
      have b' : isTabD (([t].map tabD).getD 0 .none) = false := b
      rw [b'] at z
      cases z
/-- what with_table is due -/
def DueWt (ts : List (List (List Int))) (n : Nat) (d dt : PyData) : Prop :=
  (∀ t, d = tabD t → TabOk n t → ts.length < 3 → dt = tabsD (ts ++ [t])) ∧ (fitsT n d = true → ts.length = 3 → dt = toldD "tables" .none) ∧ (fitsT n d = false → dt = toldD "tables" (.int (ts.length : Int)))
theorem snoc_tabs {K : PySem.W.Frag} {H : Hp} {c : Addr} {xs : List V} {ts : List (List (List Int))} {v : V} {t : List (List Int)} (h : SqT K H c (xs ++ [v])) (p : Paired (Pt K H) xs (ts.map tabD)) (q : Dq K H v (tabD t)) : IsTabs K H (.ref c) (ts ++ [t]) :=
  ⟨c, _, rfl, h, pr_app1 (pr_imp (fun _ _ => isTab_of) p) (dq_tab q)⟩
/-- what without_table is due -/
def DueWo (ts : List (List (List Int))) (d dt : PyData) : Prop :=
  (∀ j : Nat, d = .int (j : Int) → j < ts.length → 1 < ts.length → dt = tabsD (cutAt ts j)) ∧ ((decide (ts.length = 1) || !below d (ts.length : Int)) = true → dt = toldD "number" d)
theorem cut_tabs {ts : List (List (List Int))} {j : Nat} : PyData.tuple ((ts.map tabD).take j ++ (ts.map tabD).drop (j + 1)) = tabsD (cutAt ts j) := by
  unfold tabsD cutAt
  rw [List.map_append, List.map_take, List.map_drop]
theorem dp_ptup {K : PySem.W.Frag} {H : Hp} {a : Addr} {xs : List V} {ds : List PyData} (h : SqT K H a xs) (p : Paired (Pt K H) xs ds) : Dp K H (.ref a) (.tuple ds) := (Pt.tup h (ptAll_of p)).dp
/-! ### tables of one entry -/
def ones (is : List Int) : List (List (List Int)) := is.map fun i => [[i]]
theorem ones_ok {is : List Int} (h : ∀ i ∈ is, 0 ≤ i ∧ i ≤ 9) (l1 : 1 ≤ is.length) (l3 : is.length ≤ 3) : FamOk 1 (ones is) := by
  refine ⟨by decide, by decide, by unfold ones; rw [List.length_map]; exact l1, by unfold ones; rw [List.length_map]; exact l3, fun t ht => ?_⟩
  obtain ⟨i, hi, rfl⟩ := List.mem_map.mp ht
  refine ⟨rfl, fun r hr => ?_⟩
  rw [List.mem_singleton.mp hr]
  refine ⟨rfl, fun x hx => ?_⟩
  rw [List.mem_singleton.mp hx]
  exact h i hi
theorem pt_one {K : PySem.W.Frag} {H : Hp} {a b : Addr} {i : Int} (hi : i.natAbs ≤ 1000) (ha : SqT K H a [.int i]) (hb : SqT K H b [.ref a]) : Pt K H (.ref b) (tabD [[i]]) :=
  .tup hb (.cons (.tup ha (.cons (.int i hi) .nil)) .nil)
end G

set_option Elab.async false
set_option maxRecDepth 100000
set_option pp.maxSteps 300
namespace G
open PySem L2 PySem.Spec PyProof.Rows LamX
/-! ### law -/
abbrev sLaw : Stmt := top 27
abbrev lq : Str := (envOfC "law" (defScope sLaw) 0 0 Value.none).qual ++ "<lambda>"
theorem bt_min : bootBuiltins "min" = some (.builtin "min") := by decide +kernel
theorem passF {X : Cx} : Passes (L2.CX X.prog X.w) X E0 := fun _ _ _ _ _ _ _ h => by
  obtain ⟨_, _, _, _, _, _, _, _, _, _, _, _, z⟩ := h
  exact z.elim
structure TxL (K : PySem.W.Frag) (mg : Str → Option Value) (C fB fN fO fBe fT fLT fDu fTo fW fCR : Addr) : Prop where
  begun : TxW K mg "_law_begun" fB
  next : TxW K mg "_law_next" fN
  odd : TxW K mg "_law_odd" fO
  bent : TxW K mg "_law_bent" fBe
  tables : TxW K mg "_law_tables" fT
  lt : TxW K mg "_law_is_table" fLT
  due : TxW K mg "_law_due" fDu
  told : TxW K mg "_law_told" fTo
  wh : TxW K mg "_law_is_whole" fW
  cr : TxW K mg "_law_changed_right" fCR
  fam : mg "Family" = some (.ref C)
def spLaw (K : PySem.W.Frag) (TT : List (Addr × Str)) : Sp := fun vs H Q _ => ∃ (a : Addr) (ns : List Int), vs = [.ref a] ∧ SqL K H a (ns.map V.int) ∧ ns.length ≤ 63 ∧ (∀ p ∈ TT, H p.1 = some (.tbl #[])) ∧ ∀ H', Q (.bl true) H'
theorem scL : FnScope ["script", "m", "turn", "tables", "far", "handed", "one", "things", "thing", "k", "due", "is_so", "held", "five"] ["script"] (defScope sLaw) := ⟨rfl, rfl, rfl, by decide +kernel, rfl, by decide +kernel, by decide +kernel⟩
section
variable {P : Program} {w : World} {K : PySem.W.Frag} {mg : Str → Option Value} {base : Heap} {f c Pt C CT CN gE gL fI fB fN fO fBe fT fLT fDu fTo fW fCR fWt fWo : Addr} {fdI fdB fdN fdO fdBe fdT fdLT fdDu fdW fdCR fdWt fdWo : FuncData} {TT : List (Addr × Str)}
set_option maxHeartbeats 8000000 in
theorem ok_law {oc kV doc pm ct : Value} {od an : Option Addr} {osl : Array (Option Value)}
    (lk : K.lookup f = some ⟨oc, od, .func (PySem.W.fnOf "law" "law" (defArgs sLaw) (defBody sLaw) (defScope sLaw) .none kV doc pm an (.ref c) ct), osl⟩) (hcd : PySem.W.codeIn K (.ref c) "law" = true)
    (T : TxL K mg C fB fN fO fBe fT fLT fDu fTo fW fCR) (U : TxU mg) (W : Fam1 K C) (Z : XTwo K mg CT CN) (TB : TabB base mg c Pt) (hmT : (Pt, lq) ∈ TT) (huT : ∀ p ∈ TT, p.1 = Pt → p.2 = lq)
    (MK : Mk K C fI) (GI : FnOk P w K mg base (L2.CX P w) 5 fI fdI ["self", "tables"] (spInit K C CT)) (bI : Binds K fdI ["self", "tables"] [])
    (EF : EqF P w K mg base C gE) (L : LenF P w K mg base C gL)
    (GB : FnOk P w K mg base CX0 1 fB fdB ["script"] (spBegun K)) (bB : Binds K fdB ["script"] [])
    (GN : FnOk P w K mg base CX0 1 fN fdN ["m", "many"] spNext) (bN : Binds K fdN ["m", "many"] [])
    (GO : FnOk P w K mg base CX0 2 fO fdO ["m"] (spOdd2 K)) (bO : Binds K fdO ["m"] [])
    (GB2 : FnOk P w K mg base CX0 5 fBe fdBe ["m", "thing"] (spBent2 K 2)) (GB3 : FnOk P w K mg base CX0 6 fBe fdBe ["m", "thing"] (spBent2 K 3)) (bBe : Binds K fdBe ["m", "thing"] [])
    (GT : FnOk P w K mg base CX0 2 fT fdT ["m", "spread", "many", "sparse"] (spTabs K)) (bT : Binds K fdT ["m", "spread", "many", "sparse"] [])
    (GLT : FnOk P w K mg base CX0 2 fLT fdLT ["thing", "n"] (spLT K)) (bLT : Binds K fdLT ["thing", "n"] [])
    (GD : FnOk P w K mg base CX0 3 fDu fdDu ["tables"] (spDue K)) (bD : Binds K fdDu ["tables"] [])
    (GW : FnOk P w K mg base CX0 1 fW fdW ["thing", "low", "high"] (spWh K)) (bW : Binds K fdW ["thing", "low", "high"] [])
    (GCR : FnG P w K mg base CX0 10 fCR fdCR ["m", "tables", "one"] (spCR K C TT)) (bCR : Binds K fdCR ["m", "tables", "one"] [])
    (mWt : Meth K C "with_table" fWt) (GWt : FnOk P w K mg base (L2.CX P w) 7 fWt fdWt ["self", "table"] (spWith K C CT)) (bWt : Binds K fdWt ["self", "table"] [])
    (mWo : Meth K C "without_table" fWo) (GWo : FnOk P w K mg base (L2.CX P w) 7 fWo fdWo ["self", "number"] (spWo K C CN)) (bWo : Binds K fdWo ["self", "number"] [])
    {ocC kVC docC pmC ctC cdC : Value} {odC anC : Option Addr} {oslC : Array (Option Value)}
    (lkC : K.lookup fTo = some ⟨ocC, odC, .func (PySem.W.fnOf "_law_told" "_law_told" (defArgs sTo) (defBody sTo) (defScope sTo) .none kVC docC pmC anC cdC ctC), oslC⟩) (hcC : PySem.W.codeIn K cdC "_law_told" = true)
    (bC : Binds K (PySem.W.fnOf "_law_told" "_law_told" (defArgs sTo) (defBody sTo) (defScope sTo) .none kVC docC pmC anC cdC ctC) ["call"] []) :
    FnG P w K mg base CX0 11 f (PySem.W.fnOf "law" "law" (defArgs sLaw) (defBody sLaw) (defScope sLaw) .none kV doc pm an (.ref c) ct) ["script"] (spLaw K TT) := by
  refine okGat lk hcd scL (fun vs H Q E h => ?_) (fun A fr s H vs Q E hg hr h => ?_)
  · obtain ⟨a, ns, rfl, _⟩ := h
    rfl
  · obtain ⟨a, ns, rfl, hS, hlen, hPt, k⟩ := h
    have h64 := hu64 hr
    refine ⟨_, pss_cons (ps_set (i := 1) scL.nd rfl (Or.inr rfl) (pe_call GB (hr.mono (by decide)) (by rfl) T.begun.at_ T.begun.kp bB .nil pass0 (pa_cons (pv 0) pa_nil)))
      (C8.pss_cut (ps_for PassesOwn.never rfl (pi_range1 (by rfl) U.range (pa_cons (pe_op op_add pe_int (pe_callB (call_min2 rfl) (by rfl) U.min bt_min (pa_cons (pe_callB call_len_seq (by rfl) U.len PySem.boot_len (pa_cons (pv 0) pa_nil)) (pa_cons pe_int pa_nil)))) pa_nil)) (pg_name (i := 2) scL.nd rfl (Or.inl rfl))
      (pss_cons (ps_asg (pe_tup (pa_cons (pe_call GT (hr.mono (by decide)) (by rfl) T.tables.at_ T.tables.kp bT .nil pass0 (pa_cons (pv 1) (pa_cons pe_int (pa_cons pe_int (pa_cons pe_int pa_nil))))) (pa_cons (pe_call GT (hr.mono (by decide)) (by rfl) T.tables.at_ T.tables.kp bT .nil pass0 (pa_cons (pv 1) (pa_cons pe_int (pa_cons pe_int (pa_cons pe_int pa_nil))))) pa_nil))) (pg_tup rfl (pgs_cons (pg_name (i := 3) scL.nd rfl (Or.inr rfl)) (pgs_cons (pg_name (i := 4) scL.nd rfl (Or.inl rfl)) pgs_nil))))
      (pss_cons (ps_set (i := 5) scL.nd rfl (Or.inl rfl) (pe_callTy (r := rListOf K) call_list_of (by rfl) U.list boot_list (pa_cons (pv 3) pa_nil)))
      (pss_cons (ps_set (i := 6) scL.nd rfl (Or.inr rfl) (pe_make (E := E0) MK GI (hr.mono (by decide)) (by rfl) T.fam bI .nil passF (pa_cons (pv 5) pa_nil)))
      (C8.pss_cut (ps_expr (pe_bm PySem.F.plainAttrs_list PySem.F.slot_list_append PySem.F.type_list_append mt_append (pv 5) (pa_cons pe_non pa_nil)))
      (pss_cons (ps_if (pw_or (pt_cmpR (op_neD h64) (pe_fld (pv 6) (by rfl)) (pv 3) (nomark _)) (pw_or (pt_cmpR op_ne (pe_fld (pv 6) (by rfl)) (pe_callB call_len_seq (by rfl) U.len PySem.boot_len (pa_cons (pe_ix (r := rIxT K) ix_tup (pv 3) pe_int (fun _ _ => rfl)) pa_nil)) (nomark _)) (pw_or (pt_cmpR op_ne (pe_callB (r := rLenFam K C) (call_lenOwn L.at_ L.fn L.go (hr.mono (by decide)) pass0) (by rfl) U.len PySem.boot_len (pa_cons (pv 6) pa_nil)) (pe_callB call_len_seq (by rfl) U.len PySem.boot_len (pa_cons (pv 3) pa_nil)) (nomark _)) (pw_or1 (pt_cmpR (op_eqF EF (hr.mono (by decide))) (pv 6) (pv 3) (nomark _)))))).pt (pss_one (ps_ret pe_bl)) pss_nil)
      (C8.pss_cut (ps_if (pw_or (pt_cmpR op_ne (pe_cmpR (op_eqF EF (hr.mono (by decide))) (pv 6) (pe_make (E := E0) MK GI (hr.mono (by decide)) (by rfl) T.fam bI .nil passF (pa_cons (pv 4) pa_nil)) (nomark _)) (pe_cmpR (op_eqD h64) (pv 3) (pv 4) (nomark _)) (nomark _)) (pw_or (pt_not (pt_val (pe_callG hg GCR hr (by rfl) T.cr.at_ T.cr.kp bCR .nil pass0 (pa_cons (pv 1) (pa_cons (pv 3) (pa_cons (pv 6) pa_nil)))))) (pw_or1 (pt_cmpR (op_neF EF (hr.mono (by decide))) (pv 6) (pe_make (E := E0) MK GI (hr.mono (by decide)) (by rfl) T.fam bI .nil passF (pa_cons (pv 3) pa_nil)) (nomark _))))).pt (pss_one (ps_ret pe_bl)) pss_nil)
      (pss_cons (ps_set (i := 7) scL.nd rfl (Or.inl rfl) (pe_lst (pa_cons (pv 3) (pa_cons (pe_callTy (r := rListOf K) call_list_of (by rfl) U.list boot_list (pa_cons (pv 3) pa_nil)) (pa_cons (pe_tup pa_nil) (pa_cons (pe_lst pa_nil) (pa_cons pe_non (pa_cons pe_int (pa_cons pe_dnewK (pa_cons pe_str (pa_cons (pe_op op_repT (pv 3) pe_int) (pa_cons (pe_op op_catA (pv 3) (pe_slice sl_tupA (pv 4) po_none (po_some pe_int))) (pa_cons (pe_op op_catA (pe_slice sl_tupA (pv 4) po_none (po_some pe_int)) (pv 3)) (pa_cons (pe_call GO (hr.mono (by decide)) (by rfl) T.odd.at_ T.odd.kp bO .nil pass0 (pa_cons (pv 1) pa_nil)) pa_nil))))))))))))))
      (C8.pss_cut (ps_for PassesOwn.never rfl (pi_list (pe_op op_cat (pe_op op_cat (pv 7) (pe_lc (own := [("k", 9)]) (g := gName 9) (tt := tYes) (by rfl) scL.nd (pi_range1 (by rfl) U.range (pa_cons pe_int pa_nil)) (blkOk_by (own := [("k", 9)]) (N := ["script", "m", "turn", "tables", "far", "handed", "one", "things", "thing", "k", "due", "is_so", "held", "five"]) (sc := defScope sLaw) (by decide +kernel)) (fun _ _ _ _ _ => pg_name (i := 9) scL.nd rfl (Or.inl rfl)) (fun _ _ _ _ _ => pts_nil) (fun _ _ _ _ _ => (pe_call GB3 (hr.mono (by decide)) (by rfl) T.bent.at_ T.bent.kp bBe .nil pass0 (pa_cons (pv 1) (pa_cons (pv 3) pa_nil)))))) (pe_lst (pa_cons (pe_op op_catA (pe_slice sl_tupA (pv 3) po_none (po_some pe_int)) (pe_tup (pa_cons (pe_call GB2 (hr.mono (by decide)) (by rfl) T.bent.at_ T.bent.kp bBe .nil pass0 (pa_cons (pv 1) (pa_cons (pe_ix (r := rIxT K) ix_tup (pv 3) pe_int (fun _ _ => rfl)) pa_nil))) pa_nil))) pa_nil)))) (pg_name (i := 8) scL.nd rfl (Or.inr rfl)) (pss_one (ps_if (pt_cmpR op_ne (pe_callB (call_repr hg h64) (by rfl) U.repr bt_repr (pa_cons (pe_lamcall (T := TT) (TT := TTt K CT CN) (k := 8) (by rfl) T.told.at_ T.told.kp lkC hcC bC scTo rfl (Or.inl rfl) (told_gives2 U hg hr Z) TB rfl hmT huT hr (lamS_by (sc := defScope sLaw) (by decide +kernel)) rfl (fun _ _ _ _ _ => rfl) (fun A' outer' s' H' E' f' c' hr5 => (pe_make (E := E') MK GI (hr5.mono (by decide)) (by rfl) T.fam bI .nil (passes_call (takes_of rfl rfl rfl rfl) (fun _ _ _ _ h => h)) (pa_cons (pv 8) pa_nil)))) pa_nil)) (pe_callB (call_repr hg h64) (by rfl) U.repr bt_repr (pa_cons (pe_call GD (hr.mono (by decide)) (by rfl) T.due.at_ T.due.kp bD .nil pass0 (pa_cons (pv 8) pa_nil)) pa_nil)) (nomark _)) (pss_one (ps_ret pe_bl)) pss_nil)))
      (C8.pss_cut (ps_for PassesOwn.never rfl (pi_tup (pe_tup (pa_cons (pe_ix (r := rIxT K) ix_tup (pv 4) pe_int (fun _ _ => rfl)) (pa_cons (pe_ix (r := rIxT K) ix_tup (pv 3) pe_int (fun _ _ => rfl)) (pa_cons (pe_callTy (r := rListOf K) call_list_of (by rfl) U.list boot_list (pa_cons (pe_ix (r := rIxT K) ix_tup (pv 3) pe_int (fun _ _ => rfl)) pa_nil)) (pa_cons pe_non (pa_cons (pe_call GB2 (hr.mono (by decide)) (by rfl) T.bent.at_ T.bent.kp bBe .nil pass0 (pa_cons (pv 1) (pa_cons (pe_ix (r := rIxT K) ix_tup (pv 3) pe_int (fun _ _ => rfl)) pa_nil))) (pa_cons (pe_tup (pa_cons (pe_tup pa_nil) pa_nil)) (pa_cons (pe_tup (pa_cons (pe_tup (pa_cons pe_int (pa_cons pe_int pa_nil))) pa_nil)) pa_nil))))))))) (pg_name (i := 8) scL.nd rfl (Or.inr rfl)) (pss_cons (ps_set (i := 10) scL.nd rfl (Or.inl rfl) (pe_tup (pa_cons pe_str (pa_cons (pe_callB (call_repr hg h64) (by rfl) U.repr bt_repr (pa_cons (pe_callB call_len_seq (by rfl) U.len PySem.boot_len (pa_cons (pv 3) pa_nil)) pa_nil)) pa_nil))))
      (C8.pss_cut (ps_if (pt_val (pe_call GLT (hr.mono (by decide)) (by rfl) T.lt.at_ T.lt.kp bLT .nil pass0 (pa_cons (pv 8) (pa_cons (pe_callB call_len_seq (by rfl) U.len PySem.boot_len (pa_cons (pe_ix (r := rIxT K) ix_tup (pv 3) pe_int (fun _ _ => rfl)) pa_nil)) pa_nil)))) (pss_one (ps_set (i := 10) scL.nd rfl (Or.inl rfl) (pe_ifExp (pt_cmpR op_lt (pe_callB call_len_seq (by rfl) U.len PySem.boot_len (pa_cons (pv 3) pa_nil)) pe_int (nomark _)) (pe_op op_catA (pv 3) (pe_tup (pa_cons (pv 8) pa_nil))) (pe_tup (pa_cons pe_str (pa_cons pe_str pa_nil)))))) pss_nil)
      (pss_one (ps_if (pt_cmpR (op_neD h64) (pe_lamcall (T := TT) (TT := TTt K CT CN) (k := 8) (by rfl) T.told.at_ T.told.kp lkC hcC bC scTo rfl (Or.inl rfl) (told_gives2 U hg hr Z) TB rfl hmT huT hr (lamS_by (sc := defScope sLaw) (by decide +kernel)) rfl (fun _ _ _ _ _ => rfl) (fun A' outer' s' H' E' f' c' hr5 => (pe_meth (E := E') (pv 6) W.cls mWt GWt (hr5.mono (by decide)) bWt .nil (passes_call (takes_of rfl rfl rfl rfl) (fun _ _ _ _ h => h)) (pa_cons (pv 8) pa_nil)))) (pv 10) (nomark _)) (pss_one (ps_ret pe_bl)) pss_nil)))))
      (pss_one (ps_for PassesOwn.never rfl (pi_tup (pe_tup (pa_cons (pe_un un_neg pe_int) (pa_cons pe_int (pa_cons (pe_op op_sub (pe_callB call_len_seq (by rfl) U.len PySem.boot_len (pa_cons (pv 3) pa_nil)) pe_int) (pa_cons (pe_callB call_len_seq (by rfl) U.len PySem.boot_len (pa_cons (pv 3) pa_nil)) (pa_cons pe_bl (pa_cons pe_non pa_nil)))))))) (pg_name (i := 9) scL.nd rfl (Or.inr rfl)) (C8.pss_cut (ps_set (i := 11) scL.nd rfl (Or.inl rfl) (pe_and (pe_call GW (hr.mono (by decide)) (by rfl) T.wh.at_ T.wh.kp bW .nil pass0 (pa_cons (pv 9) (pa_cons pe_int (pa_cons (pe_op op_sub (pe_callB call_len_seq (by rfl) U.len PySem.boot_len (pa_cons (pv 3) pa_nil)) pe_int) pa_nil)))) (pe_one (pe_cmpR op_gt (pe_callB call_len_seq (by rfl) U.len PySem.boot_len (pa_cons (pv 3) pa_nil)) pe_int (nomark _)))))
      (C8.pss_cut (ps_set (i := 10) scL.nd rfl (Or.inl rfl) (pe_ifExp (pt_val (pv 11)) (pe_op op_catA (pe_slice sl_tupA (pv 3) po_none (po_some (pv 9))) (pe_slice sl_tupA (pv 3) (po_some (pe_op op_add (pv 9) pe_int)) po_none)) (pe_tup (pa_cons pe_str (pa_cons (pe_callB (call_repr hg h64) (by rfl) U.repr bt_repr (pa_cons (pv 9) pa_nil)) pa_nil)))))
      (pss_one (ps_if (pt_cmpR (op_neD h64) (pe_lamcall (T := TT) (TT := TTt K CT CN) (k := 8) (by rfl) T.told.at_ T.told.kp lkC hcC bC scTo rfl (Or.inl rfl) (told_gives2 U hg hr Z) TB rfl hmT huT hr (lamS_by (sc := defScope sLaw) (by decide +kernel)) rfl (fun _ _ _ _ _ => rfl) (fun A' outer' s' H' E' f' c' hr5 => (pe_meth (E := E') (pv 6) W.cls mWo GWo (hr5.mono (by decide)) bWo .nil (passes_call (takes_of rfl rfl rfl rfl) (fun _ _ _ _ h => h)) (pa_cons (pv 9) pa_nil)))) (pv 10) (nomark _)) (pss_one (ps_ret pe_bl)) pss_nil))))))))))))))))
      (pss_cons (ps_if (pt_cmpR (op_neD h64) (pe_lamcall (T := TT) (TT := TTt K CT CN) (k := 8) (by rfl) T.told.at_ T.told.kp lkC hcC bC scTo rfl (Or.inl rfl) (told_gives2 U hg hr Z) TB rfl hmT huT hr (lamS_by (sc := defScope sLaw) (by decide +kernel)) rfl (fun _ _ _ _ _ => rfl) (fun A' outer' s' H' E' f' c' hr5 => (pe_make (E := E') MK GI (hr5.mono (by decide)) (by rfl) T.fam bI .nil (passes_call (takes_of rfl rfl rfl rfl) (fun _ _ _ _ h => h)) (pa_cons (pe_lst (pa_cons (pe_tup (pa_cons (pe_tup (pa_cons pe_int pa_nil)) pa_nil)) (pa_cons (pe_tup (pa_cons (pe_tup (pa_cons pe_int pa_nil)) pa_nil)) pa_nil))) pa_nil)))) (pe_tup (pa_cons pe_str (pa_cons pe_str pa_nil))) (nomark _)) (pss_one (ps_ret pe_bl)) pss_nil)
      (pss_cons (ps_set (i := 12) scL.nd rfl (Or.inl rfl) (pe_make (E := E0) MK GI (hr.mono (by decide)) (by rfl) T.fam bI .nil passF (pa_cons (pe_lst (pa_cons (pe_tup (pa_cons (pe_tup (pa_cons pe_int pa_nil)) pa_nil)) (pa_cons (pe_tup (pa_cons (pe_tup (pa_cons pe_int pa_nil)) pa_nil)) pa_nil))) pa_nil)))
      (pss_cons (ps_if (pw_or (pt_cmpR (op_eqF EF (hr.mono (by decide))) (pv 12) (pe_make (E := E0) MK GI (hr.mono (by decide)) (by rfl) T.fam bI .nil passF (pa_cons (pe_lst (pa_cons (pe_tup (pa_cons (pe_tup (pa_cons pe_int pa_nil)) pa_nil)) (pa_cons (pe_tup (pa_cons (pe_tup (pa_cons pe_int pa_nil)) pa_nil)) pa_nil))) pa_nil)) (nomark _)) (pw_or (pt_cmpR (op_eqF EF (hr.mono (by decide))) (pv 12) (pe_make (E := E0) MK GI (hr.mono (by decide)) (by rfl) T.fam bI .nil passF (pa_cons (pe_lst (pa_cons (pe_tup (pa_cons (pe_tup (pa_cons pe_int pa_nil)) pa_nil)) (pa_cons (pe_tup (pa_cons (pe_tup (pa_cons pe_int pa_nil)) pa_nil)) pa_nil))) pa_nil)) (nomark _)) (pw_or1 (pt_cmpR (op_neF EF (hr.mono (by decide))) (pv 12) (pe_make (E := E0) MK GI (hr.mono (by decide)) (by rfl) T.fam bI .nil passF (pa_cons (pe_tup (pa_cons (pe_tup (pa_cons (pe_tup (pa_cons pe_int pa_nil)) pa_nil)) (pa_cons (pe_tup (pa_cons (pe_tup (pa_cons pe_int pa_nil)) pa_nil)) pa_nil))) pa_nil)) (nomark _))))).pt (pss_one (ps_ret pe_bl)) pss_nil)
      (pss_cons (ps_set (i := 13) scL.nd rfl (Or.inr rfl) (pe_callTy (r := rTupOf K) call_tuple_of (by rfl) U.tup bt_tup (pa_cons (pe_lc (own := [("k", 9)]) (g := gName 9) (tt := tYes) (by rfl) scL.nd (pi_range1 (by rfl) U.range (pa_cons pe_int pa_nil)) (blkOk_by (own := [("k", 9)]) (N := ["script", "m", "turn", "tables", "far", "handed", "one", "things", "thing", "k", "due", "is_so", "held", "five"]) (sc := defScope sLaw) (by decide +kernel)) (fun _ _ _ _ _ => pg_name (i := 9) scL.nd rfl (Or.inl rfl)) (fun _ _ _ _ _ => pts_nil) (fun _ _ _ _ _ => pe_op (r := rRepT K) op_repT (pe_tup (pa_cons pe_int pa_nil)) pe_int)) pa_nil)))
      (pss_one (ps_ret (pe_and (pe_cmpR (op_eqD h64) (pe_lamcall (T := TT) (TT := TTt K CT CN) (k := 8) (by rfl) T.told.at_ T.told.kp lkC hcC bC scTo rfl (Or.inl rfl) (told_gives2 U hg hr Z) TB rfl hmT huT hr (lamS_by (sc := defScope sLaw) (by decide +kernel)) rfl (fun _ _ _ _ _ => rfl) (fun A' outer' s' H' E' f' c' hr5 => (pe_make (E := E') MK GI (hr5.mono (by decide)) (by rfl) T.fam bI .nil (passes_call (takes_of rfl rfl rfl rfl) (fun _ _ _ _ h => h)) (pa_cons (pe_lst (pa_cons (pv 13) pa_nil)) pa_nil)))) (pe_tup (pa_cons pe_str (pa_cons pe_str pa_nil))) (nomark _)) (pe_one (pe_cmpR (op_neF EF (hr.mono (by decide))) (pe_make (E := E0) MK GI (hr.mono (by decide)) (by rfl) T.fam bI .nil passF (pa_cons (pe_lst (pa_cons (pe_tup (pa_cons (pe_tup (pa_cons pe_int pa_nil)) pa_nil)) pa_nil)) pa_nil)) (pe_make (E := E0) MK GI (hr.mono (by decide)) (by rfl) T.fam bI .nil passF (pa_cons (pe_lst (pa_cons (pe_tup (pa_cons (pe_tup (pa_cons pe_int pa_nil)) pa_nil)) (pa_cons (pe_tup (pa_cons (pe_tup (pa_cons pe_int pa_nil)) pa_nil)) pa_nil))) pa_nil)) (nomark _))))))))))), ?_⟩
    refine ⟨_, rfl, a, ns, rfl, hS, hlen, fun m H1 M => ?_⟩
    have tb1 : Tabs TT H := fun p hp => TabS.nil (hPt p hp)
    refine ⟨fun σ' H' => ∃ (o2 o3 o4 o5 o6 o7 o8 o9 o10 o11 : Option V), σ' = [some (.ref a), some (.ref m), o2, o3, o4, o5, o6, o7, o8, o9, o10, o11, none, none] ∧ Tabs TT H', ?_, ?_⟩
    · have hj : ∀ z : Int, z = 4 + (if (10 : Int) < ((ns.map V.int).length : Int) then 10 else ((ns.map V.int).length : Int)) → 0 ≤ z ∧ z ≤ 14 := fun z e => by
        split at e <;> omega
      refine ⟨_, rfl, a, _, rfl, .inl (M.sm.seq hS), _, _, rfl, _, _, rfl, rfl, _, rfl, ?_, ?_, ?_⟩
      · have := hj _ rfl
        have p62 : (0 : Int) < 2 ^ 62 := by decide
        omega
      · have := hj _ rfl
        have p62 : (14 : Int) < 2 ^ 62 := by decide
        omega
      refine for_range (fun i σ H2 => ∃ (G : Hp) (o2 o3 o4 o5 o6 o7 o8 o9 o10 o11 : Option V), σ = [some (.ref a), some (.ref m), o2, o3, o4, o5, o6, o7, o8, o9, o10, o11, none, none] ∧ Mst G H2 m (2000 * (i : Int)) ∧ Tabs TT G) ⟨H, none, none, none, none, none, none, none, none, none, none, rfl, M.mono (by decide), tb1⟩ ?_ ?_
      · rintro i σ H2 hi ⟨G0, o2, o3, o4, o5, o6, o7, o8, o9, o10, o11, rfl, M0, tb0⟩
        have i14 : i < 14 := by
          have := hj _ rfl
          omega
        refine ⟨_, rfl, m, G0, 2000 * (i : Int), 4, 3, 2, rfl, M0, by omega, by decide, by decide, by decide, by decide, by decide, by decide, fun tv n ts G1 H3 s1 pt1 ok M1 => ?_⟩
        refine ⟨_, rfl, m, G1, _, 4, 3, 2, rfl, M1, by omega, by decide, by decide, by decide, by decide, by decide, by decide, fun fv n' fs G2 H4 s2 pf2 okf M2 => ?_⟩
        have pt2 := pt1.same s2
        have tb2 := Tabs.ext (Tabs.ext tb0 s1) s2
        obtain ⟨at_, txs, rfl, hT2, pT2⟩ := pt_items pt2
        obtain ⟨af, fxs, rfl, hF2, pF2⟩ := pt_items pf2
        refine ⟨(by show 2 ≤ sizeLine; decide), fun p1 hp1 => ?_⟩
        have g1 := M2.sm.free hp1
        have M3 := M2.grow (o := .tup [.ref at_, .ref af]) hp1
        have S1 := same_new (o := .tup [.ref at_, .ref af]) g1
        refine ⟨p1, [.ref at_, .ref af], rfl, SqT.of upd_same, rfl, _, _, rfl, ?_⟩
        have hT := sqT_same (M2.sm.trans (same_new (o := .tup [.ref at_, .ref af]) hp1)) hT2
        refine ⟨_, _, rfl, rfl, ?_⟩
        refine ⟨_, rfl, at_, txs, rfl, .inr hT, fun ph hph => ?_⟩
        refine ⟨_, rfl, ?_⟩
        dsimp only [tNil]
        refine mk_good (C := C) (d := .list (ts.map tabD)) (dq_plst (SqL.of upd_same) (pt_all_same ((M2.sm.trans (same_new hp1)).trans (same_new hph)) pT2)) (verdict_good ok) rfl ok fun x dx H6 s6 fam6 => ?_
        refine ⟨fun σ' H' => σ' = [some (.ref a), some (.ref m), some (.int (0 + (i : Int))), some (.ref at_), some (.ref af), some (.ref ph), some (.ref x), o7, o8, o9, o10, o11, none, none] ∧ ∃ G', StL TT K C at_ af x dx n ts fs m G' H' (2000 * (i : Int) + 400), ?_, ?_⟩
        · have hl6 : H6 ph = some (.lst txs) := s6 _ _ upd_same
          refine ⟨_, rfl, .inl ⟨rfl, _, SqL.of hl6⟩, ph, txs, .non, rfl, rfl, hl6, ?_, rfl, ?_⟩
          · have := ok.l3
            have l := pr_len pT2
            rw [List.length_map] at l
            exact Nat.lt_of_le_of_lt (show _ ≤ 3 by omega) (by decide)
          · have l9 := StL.made (C := C) (K := K) (H0 := upd H4 p1 (.tup [.ref at_, .ref af])) (M2.same (same_new hp1)) tb2 pt2 pf2 (same_wr (o := .lst (txs ++ [.non])) ((same_new (o := .lst txs) hph).trans s6) hph) (fam_wr (o := .lst (txs ++ [.non])) hl6 fam6)
            obtain ⟨G', S⟩ := l9
            exact ⟨G', S.mono (by omega)⟩
        · rintro σ' H7 ⟨rfl, G7, S7⟩
          have f7 := fam_same S7.ms.sm S7.fam
          have f7' := f7
          obtain ⟨fd7, tv7, hx7, lt7, lm7, _, _, _, hu7⟩ := f7'
          refine ⟨_, rfl, x, C, dx, fd7, tv7, rfl, hx7, W.cls, W.tables, lt7, ?_⟩
          refine ⟨_, rfl, tabsD ts, tabsD ts, dp_tabs hu7, (S7.pt.same S7.ms.sm).dp, shaped_tabs _, shaped_tabs _, _, rfl, ?_⟩
          rw [show PyData.eqv (tabsD ts) (tabsD ts) = true from eqT_refl ts]
          refine iteF ?_
          refine ⟨_, rfl, x, C, dx, fd7, _, rfl, hx7, W.cls, W.many, lm7, ?_⟩
          obtain ⟨at2, txs2, e2, hTx, pTx⟩ := pt_items S7.pt
          cases e2
          have hTx7 := sqT_same S7.ms.sm hTx
          have pTx7 := pt_all_same S7.ms.sm pTx
          have n1 := ok.n1
          have n4 := ok.n4
          have l1 := ok.l1
          have l3 := ok.l3
          have lt := pr_len pTx
          rw [List.length_map] at lt
          obtain ⟨t0, ht0⟩ : ∃ t0, ts[0]? = some t0 := ⟨ts[0]'(by omega), List.getElem?_eq_getElem _⟩
          obtain ⟨v0, hv0, q0⟩ := pr_at pTx (show (ts.map tabD)[0]? = some (tabD t0) by rw [List.getElem?_map, ht0]; rfl)
          have ot0 := ok.ok t0 (List.mem_of_getElem? ht0)
          obtain ⟨b0, ys0, rfl, hb0, ly0⟩ := tab_len (isTab_of q0)
          have hb07 := sqT_same S7.ms.sm hb0
          refine ⟨_, rfl, at_, txs2, 0, _, rfl, rfl, hTx7, atI_nat (j := 0) hv0, b0, ys0, rfl, .inr hb07, ?_⟩
          rw [ly0, ot0.1]
          refine ⟨rfl, _, rfl, iteNS rfl ?_⟩
          refine ⟨_, rfl, len_fam f7 l3 ?_⟩
          refine ⟨_, rfl, at_, txs2, rfl, .inr hTx7, ?_⟩
          rw [lt]
          refine ⟨rfl, _, rfl, iteNS rfl ?_⟩
          refine ⟨_, rfl, _, rfl, x, dx, n, ts, rfl, f7, .inl ⟨at_, txs2, ts.map tabD, rfl, hTx7, .inl (S7.pt.same S7.ms.sm).dp, ?_⟩⟩
          refine ⟨_, rfl, iteF ?_⟩
          refine ⟨fun σ' H' => σ' = [some (.ref a), some (.ref m), some (.int (0 + (i : Int))), some (.ref at_), some (.ref af), some (.ref ph), some (.ref x), o7, o8, o9, o10, o11, none, none] ∧ ∃ G', StL TT K C at_ af x dx n ts fs m G' H' (2000 * (i : Int) + 500), ?_, ?_⟩
          · have ptH := S7.pt.same S7.ms.sm
            have pfH := S7.pf.same S7.ms.sm
            refine ⟨_, rfl, _, rfl, ?_⟩
            dsimp only [tNil]
            refine mk_good (C := C) (d := tabsD fs) (.inl pfH.dp) (verdict_good okf) rfl okf fun y dy H8 s8 fam8 => ?_
            refine ⟨x, dx, n, ts, rfl, fam_same s8 f7, .inr ⟨y, dy, n', fs, rfl, fam8, ?_⟩⟩
            refine ⟨_, rfl, _, rfl, tabsD ts, tabsD fs, (ptH.same s8).dp, (pfH.same s8).dp, shaped_tabs _, shaped_tabs _, rfl, _, rfl, iteNS rfl ?_⟩
            obtain ⟨G8, S8, _, _, _⟩ := S7.ext (ext_of s8) (Tabs.ext S7.tbH s8)
            refine ⟨_, rfl, _, rfl, _, rfl, m, x, dx, .ref at_, n, ts, G8, _, rfl, S8.ms, by omega, S8.tb, isTabs_of S8.pt, S8.fam, ok, fun G9 H9 e9 tb9 M9 => ?_⟩
            have S9 : StL TT K C at_ af x dx n ts fs m G9 H9 (2000 * (i : Int) + 400 + 100) := ⟨M9, tb9, S8.pt.ts (ts_ext e9), S8.pf.ts (ts_ext e9), fam_ext e9 S8.fam⟩
            refine ⟨true, rfl, iteF ?_⟩
            refine ⟨_, rfl, _, rfl, ?_⟩
            dsimp only [tNil]
            refine mk_good (C := C) (d := tabsD ts) (.inl (S9.pt.same M9.sm).dp) (verdict_good ok) rfl ok fun y2 dy2 H10 s10 fam10 => ?_
            refine ⟨x, dx, n, ts, y2, dy2, n, ts, rfl, fam_same (Same.trans M9.sm s10) S9.fam, rfl, fam10, ?_⟩
            rw [eqT_refl]
            refine ⟨_, rfl, iteF ?_⟩
            exact ⟨rfl, G9, (S9.same s10).mono (by omega)⟩
          · rintro σ' H11 ⟨rfl, G11, S11⟩
            obtain ⟨at3, xs, e3, hX, pX⟩ := pt_items S11.pt
            cases e3
            obtain ⟨af3, zs, e4, hZ, pZ⟩ := pt_items S11.pf
            cases e4
            have lx := pr_len pX
            rw [List.length_map] at lx
            have lz := pr_len pZ
            rw [List.length_map] at lz
            have z1 := okf.l1
            have z3 := okf.l3
            have s11 := S11.ms.sm
            have hXH := sqT_same s11 hX
            have hZH := sqT_same s11 hZ
            have line : ∀ z : Nat, z ≤ 7000 → z ≤ sizeLine := fun z h => Nat.le_trans h (by decide)
            refine ⟨_, rfl, _, rfl, at_, xs, rfl, .inr hXH, fun q1 hq1 => ?_⟩
            have S12 := S11.grow (o := .lst xs) hq1
            have g12 := same_new (o := .lst xs) (S11.ms.sm.free hq1)
            have n12 := same_new (o := .lst xs) hq1
            refine ⟨Nat.zero_le _, fun q2 hq2 => ?_⟩
            have S13 := S12.grow (o := .tup []) hq2
            have g13 := same_new (o := .tup []) (S12.ms.sm.free hq2)
            have n13 := n12.trans (same_new (o := .tup []) hq2)
            refine ⟨Nat.zero_le _, fun q3 hq3 => ?_⟩
            have S14 := S13.grow (o := .lst []) hq3
            have g14 := same_new (o := .lst []) (S13.ms.sm.free hq3)
            have n14 := n13.trans (same_new (o := .lst []) hq3)
            refine fun q4 hq4 => ?_
            have S15 := S14.grow (o := .dK []) hq4
            have g15 := same_new (o := .dK []) (S14.ms.sm.free hq4)
            have n15 := n14.trans (same_new (o := .dK []) hq4)
            refine ⟨_, rfl, at_, 4, xs, rfl, rfl, sqT_same n15 hXH, ?_, by decide, by decide, by omega, fun q5 hq5 => ?_⟩
            · intro z
              rw [z] at lx
              simp at lx
              omega
            have S16 := S15.grow (o := .tup (List.replicate (4 : Int).toNat xs).flatten) hq5
            have g16 := same_new (o := .tup (List.replicate (4 : Int).toNat xs).flatten) (S15.ms.sm.free hq5)
            have n16 := n15.trans (same_new (o := .tup (List.replicate (4 : Int).toNat xs).flatten) hq5)
            refine ⟨_, rfl, _, rfl, _, rfl, ?_⟩
            dsimp only [tNoPart]
            refine sl_new (sqT_same n16 hZH) fun c1 K1 u1 f1 => ?_
            have f1' := cutT1 (by omega) f1
            refine cat_new (sqT_same (n16.trans u1) hXH) f1' (line _ (by rw [List.length_take]; omega)) fun c2 K2 u2 f2 => ?_
            refine ⟨_, rfl, _, rfl, ?_⟩
            dsimp only [tNoPart]
            have n18 := (n16.trans u1).trans u2
            refine sl_new (sqT_same n18 hZH) fun c3 K3 u3 f3 => ?_
            have f3' := cutT1 (by omega) f3
            refine ⟨_, rfl, ?_⟩
            refine cat_new f3' (sqT_same (n18.trans u3) hXH) (line _ (by rw [List.length_take]; omega)) fun c4 K4 u4 f4 => ?_
            have uu := ((u1.trans u2).trans u3).trans u4
            obtain ⟨G17, S17, e17, t17, _⟩ := S16.ext (ext_of uu) (Tabs.ext S16.tbH uu)
            refine ⟨_, rfl, m, G17, _, rfl, S17.ms, by omega, fun vo dO G18 H18 s18 dqo mo M18 => ?_⟩
            have S18 := S17.of s18 M18
            refine ⟨(by show 12 ≤ sizeLine; decide), fun pt hpt => ?_⟩
            have gg : Same G11 _ := g12.trans (g13.trans (g14.trans (g15.trans g16)))
            have hX17 := sqT_ext e17 (sqT_same gg hX)
            have pX17 := pt_all_ts (ts_ext e17) (pt_all_same gg pX)
            have pZ17 := pt_all_ts (ts_ext e17) (pt_all_same gg pZ)
            have a1 : SqL K G17 q1 xs := sqL_ext e17 ((g13.trans (g14.trans (g15.trans g16))).seq (SqL.of upd_same))
            have a2 : SqT K G17 q2 [] := sqT_ext e17 (sqT_same (g14.trans (g15.trans g16)) (SqT.of upd_same))
            have a3 : SqL K G17 q3 [] := sqL_ext e17 ((g15.trans g16).seq (SqL.of upd_same))
            have a4 : G17 q4 = some (.dK []) := e17 _ _ (g16 _ _ upd_same) fun _ z => nomatch z
            have a5 : SqT K G17 q5 (List.replicate (4 : Int).toNat xs).flatten := sqT_ext e17 (SqT.of upd_same)
            have a6 : SqT K G17 c2 (xs ++ zs.take 1) := sqT_ts t17 (sqT_same (u3.trans u4) f2)
            have a7 : SqT K G17 c4 (zs.take 1 ++ xs) := sqT_ts t17 f4
            have all12 : AllDq K G18 [.ref at_, .ref q1, .ref q2, .ref q3, .non, .int 5, .ref q4, .str "a", .ref q5, .ref c2, .ref c4, vo] :=
              allDq_app (xs := [.ref at_, .ref q1, .ref q2, .ref q3, .non, .int 5, .ref q4, .str "a", .ref q5, .ref c2, .ref c4]) (allDq_same s18 (allDq_cons (.inl S17.pt.dp) (allDq_cons (dq_plst a1 pX17) (allDq_cons (dq_ptup a2 .nil) (allDq_cons (dq_plst a3 .nil) (allDq_cons (.inl .non) (allDq_cons (.inl (.int 5)) (allDq_cons (.inr (.dct a4)) (allDq_cons (.inl (.str "a"))
                (allDq_cons (dq_ptup a5 (pr_rep pX17 _)) (allDq_cons (dq_ptup a6 (pr_app pX17 (pr_take 1 pZ17))) (allDq_cons (dq_ptup a7 (pr_app (pr_take 1 pZ17) pX17)) allDq_nil))))))))))))
              (allDq_cons (dqo.same hid_sm) allDq_nil)
            have S19 := S18.grow (o := .lst [.ref at_, .ref q1, .ref q2, .ref q3, .non, .int 5, .ref q4, .str "a", .ref q5, .ref c2, .ref c4, vo]) hpt
            have g19 := same_new (o := .lst [.ref at_, .ref q1, .ref q2, .ref q3, .non, .int 5, .ref q4, .str "a", .ref q5, .ref c2, .ref c4, vo]) (S18.ms.sm.free hpt)
            replace all12 := allDq_same g19 all12
            have things := (upd_same (H := G18) (a := pt) (o := .lst [.ref at_, .ref q1, .ref q2, .ref q3, .non, .int 5, .ref q4, .str "a", .ref q5, .ref c2, .ref c4, vo]))
            generalize upd G18 pt (.lst [.ref at_, .ref q1, .ref q2, .ref q3, .non, .int 5, .ref q4, .str "a", .ref q5, .ref c2, .ref c4, vo]) = G19 at S19 g19 all12 things
            generalize upd H18 pt (.lst [.ref at_, .ref q1, .ref q2, .ref q3, .non, .int 5, .ref q4, .str "a", .ref q5, .ref c2, .ref c4, vo]) = H19 at S19 ⊢
            have lth : ([.ref at_, .ref q1, .ref q2, .ref q3, .non, .int 5, .ref q4, .str "a", .ref q5, .ref c2, .ref c4, vo] : List V).length = 12 := rfl
            generalize ([.ref at_, .ref q1, .ref q2, .ref q3, .non, .int 5, .ref q4, .str "a", .ref q5, .ref c2, .ref c4, vo] : List V) = th at all12 things lth
            refine ⟨fun σ' H' => ∃ o8 : Option V, σ' = [some (.ref a), some (.ref m), some (.int (0 + (i : Int))), some (.ref at_), some (.ref af), some (.ref ph), some (.ref x), some (.ref pt), o8, o9, o10, o11, none, none] ∧ ∃ G', StL TT K C at_ af x dx n ts fs m G' H' (2000 * (i : Int) + 1200), ?_, ?_⟩
            · refine ⟨_, rfl, ?_⟩
              refine ⟨_, rfl, by decide, by decide, fun D hD => lc_range (lo := 0) (n := 10) (fun j H' => ∃ G' ys, StL TT K C at_ af x dx n ts fs m G' H' (2000 * (i : Int) + 501 + 40 * (j : Int)) ∧ Same G19 G' ∧ G' D = some (.lst ys) ∧ ys.length = j ∧ AllDq K (del G' D) ys)
                ⟨_, [], (S19.grow hD).mono (by omega), same_new (S19.ms.sm.free hD), upd_same, rfl, allDq_nil⟩ (fun j H' hj pv => ?_) (fun H' pv => ?_)⟩
              · obtain ⟨G', ys, S', sg, eD, ly, ad⟩ := pv
                refine ⟨rfl, ?_⟩
                simp only [tYes, if_true]
                refine ⟨_, rfl, _, rfl, m, G', _, .ref at_, tabsD ts, 735, rfl, S'.ms, by omega, S'.pt, nice_tabs ok, by decide, by decide, fun v' d' G2 H2 s2 dq2 _ M2 => ⟨ys, M2.sm _ _ (s2 _ _ eD), Nat.lt_of_le_of_lt (show _ ≤ 10 by omega) (by decide), ?_⟩⟩
                have e2 := s2 _ _ eD
                exact ⟨_, ys ++ [v'], ((S'.of s2 M2).wr e2).mono (by omega), same_wr (sg.trans s2) (S19.ms.sm.free hD), upd_same, by rw [List.length_append, ly]; rfl, allDq_app (allDq_same ((dl_mono s2).trans dl_upd) ad) (allDq_cons (dq2.same ((dl_hid eD).trans dl_upd)) allDq_nil)⟩
              · obtain ⟨G', ys, S', sg, eD, ly, ad⟩ := pv
                refine ⟨pt, D, th, ys, rfl, rfl, S'.ms.sm _ _ (sg _ _ things), S'.ms.sm _ _ eD, line _ (by omega), fun p4 h4 => ?_⟩
                have S5 := S'.grow (o := .lst (th ++ ys)) h4
                have g5 := same_new (o := .lst (th ++ ys)) (S'.ms.sm.free h4)
                have all5 := allDq_same g5 (allDq_app (allDq_same sg all12) (allDq_same dl_le ad))
                have lst5 := upd_same (H := G') (a := p4) (o := .lst (th ++ ys))
                have len5 : (th ++ ys).length ≤ 30 := by
                  rw [List.length_append]
                  omega
                generalize upd G' p4 (.lst (th ++ ys)) = G5 at S5 g5 all5 lst5
                generalize upd H' p4 (.lst (th ++ ys)) = H5 at S5 ⊢
                generalize th ++ ys = L5 at all5 lst5 len5
                obtain ⟨at6, x5, e6, hX5, pX5⟩ := pt_items S5.pt
                cases e6
                have lx5 := pr_len pX5
                rw [List.length_map] at lx5
                refine ⟨_, rfl, _, rfl, ?_⟩
                dsimp only [tNoPart]
                refine sl_new (sqT_same S5.ms.sm hX5) fun c5 K5 u5 f5 => ?_
                have f5' := cutT1 (by omega) f5
                obtain ⟨G6, S6, e6, t6, _⟩ := S5.ext (ext_of u5) (Tabs.ext S5.tbH u5)
                have hX6 := sqT_ext e6 hX5
                have pX6 := pt_all_ts (ts_ext e6) pX5
                obtain ⟨v6, hv6, q6⟩ := pr_at pX6 (show (ts.map tabD)[0]? = some (tabD t0) by rw [List.getElem?_map, ht0]; rfl)
                refine ⟨_, rfl, _, rfl, at_, x5, 0, v6, rfl, rfl, sqT_same S6.ms.sm hX6, atI_nat (j := 0) hv6, m, G6, _, v6, tabD t0, 244, rfl, S6.ms, by omega, q6, nice_tab ot0 n4, by decide, by decide, fun v' d' G7 H7 s7 dq7 _ M7 => ?_⟩
                have S7b := S6.of s7 M7
                refine ⟨(by show 1 ≤ sizeLine; decide), fun q8 hq8 => ?_⟩
                have S8b := S7b.grow (o := .tup [v']) hq8
                have g8 := same_new (o := .tup [v']) (S7b.ms.sm.free hq8)
                have f6 : SqT K G6 c5 (x5.take 1) := sqT_ts t6 f5'
                refine cat_new (sqT_same S8b.ms.sm (sqT_same (s7.trans g8) f6)) (SqT.of (S8b.ms.sm _ _ upd_same)) (line _ (by rw [List.length_take]; show _ + 1 ≤ _; omega)) fun c9 K9 u9 f9 => ?_
                refine ⟨(by show 1 ≤ sizeLine; decide), fun q9 hq9 => ?_⟩
                obtain ⟨G9, S9, e9, t9, _⟩ := S8b.ext (ext_of u9) (Tabs.ext S8b.tbH u9)
                have S9b := S9.grow (o := .lst [.ref c9]) hq9
                have g9 := same_new (o := .lst [.ref c9]) (S9.ms.sm.free hq9)
                have k9 : G9 p4 = some (.lst L5) := e9 _ _ ((s7.trans g8) _ _ (e6 _ _ lst5 fun _ z => nomatch z)) fun _ z => nomatch z
                refine ⟨p4, q9, L5, [.ref c9], rfl, rfl, S9b.ms.sm _ _ (g9 _ _ k9), S9b.ms.sm _ _ upd_same, line _ (by show _ + 1 ≤ _; omega), fun pL hpL => ?_⟩
                have S10b := S9b.grow (o := .lst (L5 ++ [.ref c9])) hpL
                have g10 := same_new (o := .lst (L5 ++ [.ref c9])) (S9b.ms.sm.free hpL)
                have dq9 : Dq K G9 (.ref c9) (.tuple ((ts.map tabD).take 1 ++ [d'])) :=
                  dq_more (sqT_ts t9 f9) (pt_all_ts (ts_ext e9) (pt_all_same (s7.trans g8) (pr_take 1 pX6))) (((dq7.same hid_sm).same g8).ext e9)
                have allL := allDq_same (g9.trans g10) (allDq_app (allDq_ext e9 (allDq_same (s7.trans g8) (allDq_ext e6 all5))) (allDq_cons dq9 allDq_nil))
                have hL := upd_same (H := upd G9 q9 (.lst [.ref c9])) (a := pL) (o := .lst (L5 ++ [.ref c9]))
                have S10c := S10b.mono (T' := 2000 * (i : Int) + 1200) (by omega)
                generalize upd (upd G9 q9 (.lst [.ref c9])) pL (.lst (L5 ++ [.ref c9])) = GL at S10c allL hL
                generalize upd (upd K9 q9 (.lst [.ref c9])) pL (.lst (L5 ++ [.ref c9])) = HL at S10c ⊢
                generalize L5 ++ [.ref c9] = L at allL hL
                refine ⟨pL, rfl, ⟨_, SqL.of (S10c.ms.sm _ _ hL)⟩, for_list (xs := L) (D := { nx := fun σ' H' => ∃ o8 : Option V, σ' = [some (.ref a), some (.ref m), some (.int (0 + (i : Int))), some (.ref at_), some (.ref af), some (.ref ph), some (.ref x), some (.ref pt), o8, o9, o10, o11, none, none] ∧ ∃ G', StL TT K C at_ af x dx n ts fs m G' H' (2000 * (i : Int) + 1200), rt := _, bk := fun _ _ => False, ct := fun _ _ => False }) (fun j σ H' => ∃ (o8 : Option V), σ = [some (.ref a), some (.ref m), some (.int (0 + (i : Int))), some (.ref at_), some (.ref af), some (.ref ph), some (.ref x), some (.ref pt), o8, o9, o10, o11, none, none] ∧ ∃ G', StL TT K C at_ af x dx n ts fs m G' H' (2000 * (i : Int) + 1200) ∧ ExtN GL G')
                  ⟨_, rfl, GL, S10c, ExtN.refl _⟩ (fun j σ H' _ pv => ?_) (fun j v σ H' hv pv => ?_) (fun σ H' pv => ?_)⟩
                · obtain ⟨_, _, G', S', eG⟩ := pv
                  exact SqL.of (S'.ms.sm _ _ (eG _ _ hL fun _ z => nomatch z))
                · obtain ⟨o8', rfl, G', S', eG⟩ := pv
                  obtain ⟨d, dv⟩ := allL v (List.mem_of_getElem? hv)
                  have dvH := (dv.ext eG).same S'.ms.sm
                  refine ⟨S'.tbH, fun H10 e10 tb10 => ?_⟩
                  have fin : ∀ (Hf : Hp), Same H10 Hf → ∃ (o8 : Option V), [some (.ref a), some (.ref m), some (.int (0 + (i : Int))), some (.ref at_), some (.ref af), some (.ref ph), some (.ref x), some (.ref pt), some v, o9, o10, o11, none, none] = [some (.ref a), some (.ref m), some (.int (0 + (i : Int))), some (.ref at_), some (.ref af), some (.ref ph), some (.ref x), some (.ref pt), o8, o9, o10, o11, none, none] ∧ ∃ G', StL TT K C at_ af x dx n ts fs m G' Hf (2000 * (i : Int) + 1200) ∧ ExtN GL G' := fun Hf sf => by
                    obtain ⟨Gf, Sf, ef, _, _⟩ := S'.ext (e10.trans (ext_of sf)) (Tabs.ext tb10 sf)
                    exact ⟨_, rfl, Gf, Sf, eG.trans ef⟩
                  have dv10 := dvH.ext e10
                  have rpd := rp_due d
                  refine ⟨_, rfl, ?_⟩
                  dsimp only [tNil]
                  refine mk_any (C := C) (d := d) dv10 (fun hv' n2 ts2 y dy H11 ei ok2 s11 fam11 => ?_) (fun p hp dd H11 s11 hdd => .inl ⟨rfl, dd, placeV p, placeD p, rfl, hdd, (place_sc (verdict_some hp)).dq, (place_sc (verdict_some hp)).rp, fun pq H12 s12 hpq => ?_⟩)
                  · obtain ⟨gs, uv, hy, m1, _, _, _, _, hu⟩ := fam11
                    have rp2 := nice_rp (nice_tabs ok2) (by decide) (by decide)
                    refine ⟨y, C, dy, gs, uv, rfl, hy, W.cls, W.tables, m1, uv, tabsD ts2, rfl, .inl (dp_tabs hu), rp2.sh, rp2.len, rp2.dep, ?_⟩
                    refine ⟨_, rfl, v, d, rfl, dv10.same s11, fun y2 H12 s12 dq12 => ?_⟩
                    refine ⟨y2, dueD d, rfl, dq12, rpd.sh, rpd.len, rpd.dep, rfl, _, rfl, iteNS ?_ (fin _ (s11.trans s12))⟩
                    unfold dueD
                    rw [hv', ei]
                    rfl
                  · have rp2 := rp_pair (verdict_some hp)
                    refine ⟨.ref pq, toldD "tables" (placeD p), rfl, dq_two hpq, rp2.sh, rp2.len, rp2.dep, ?_⟩
                    refine ⟨_, rfl, v, d, rfl, dv10.same (s11.trans s12), fun y2 H13 s13 dq13 => ?_⟩
                    refine ⟨y2, dueD d, rfl, dq13, rpd.sh, rpd.len, rpd.dep, rfl, _, rfl, iteNS ?_ (fin _ ((s11.trans s12).trans s13))⟩
                    unfold dueD
                    rw [hp]
                · obtain ⟨o8', rfl, G', S', eG⟩ := pv
                  exact ⟨_, rfl, G', S'⟩
            · rintro σ' H20 ⟨o8', rfl, G20, S20⟩
              obtain ⟨at7, x7, e7, hX7, pX7⟩ := pt_items S20.pt
              cases e7
              obtain ⟨af7, z7, e8, hZ7, pZ7⟩ := pt_items S20.pf
              cases e8
              have lx7 := pr_len pX7
              rw [List.length_map] at lx7
              have hX7H := sqT_same S20.ms.sm hX7
              have hZ7H := sqT_same S20.ms.sm hZ7
              obtain ⟨v7, hv7, p7⟩ := pr_at pX7 (show (ts.map tabD)[0]? = some (tabD t0) by rw [List.getElem?_map, ht0]; rfl)
              obtain ⟨u0, hu0⟩ : ∃ u0, fs[0]? = some u0 := ⟨fs[0]'(by omega), List.getElem?_eq_getElem _⟩
              obtain ⟨w7, hw7, r7⟩ := pr_at pZ7 (show (fs.map tabD)[0]? = some (tabD u0) by rw [List.getElem?_map, hu0]; rfl)
              obtain ⟨b7, ys7, e9, hb7, pb7⟩ := pt_items p7
              have ly7 := pr_len pb7
              rw [List.length_map, ot0.1] at ly7
              refine ⟨fun σ' H' => ∃ o8 o10 : Option V, σ' = [some (.ref a), some (.ref m), some (.int (0 + (i : Int))), some (.ref at_), some (.ref af), some (.ref ph), some (.ref x), some (.ref pt), o8, o9, o10, o11, none, none] ∧ ∃ G', StL TT K C at_ af x dx n ts fs m G' H' (2000 * (i : Int) + 1400), ?_, ?_⟩
              · refine ⟨_, rfl, af, z7, 0, w7, rfl, rfl, hZ7H, atI_nat (j := 0) hw7, ?_⟩
                refine ⟨_, rfl, at_, x7, 0, v7, rfl, rfl, hX7H, atI_nat (j := 0) hv7, ?_⟩
                refine ⟨_, rfl, at_, x7, 0, v7, rfl, rfl, hX7H, atI_nat (j := 0) hv7, b7, ys7, congrArg (fun z => [z]) e9, .inr (sqT_same S20.ms.sm hb7), fun l1 hl1 => ?_⟩
                have S21 := S20.grow (o := .lst ys7) hl1
                have g21 := same_new (o := .lst ys7) (S20.ms.sm.free hl1)
                have h21 := same_new (o := .lst ys7) hl1
                refine ⟨_, rfl, _, rfl, at_, x7, 0, v7, rfl, rfl, sqT_same h21 hX7H, atI_nat (j := 0) hv7, m, _, _, v7, tabD t0, 244, rfl, S21.ms, by omega, p7.same g21, nice_tab ot0 n4, by decide, by decide, fun v' d' G22 H22 s22 dq22 _ M22 => ?_⟩
                have S22 := S21.of s22 M22
                refine ⟨Nat.zero_le _, fun q1 hq1 => ?_⟩
                have S23 := S22.grow (o := .tup []) hq1
                have g23 := same_new (o := .tup []) (S22.ms.sm.free hq1)
                refine ⟨(by show 1 ≤ sizeLine; decide), fun q2 hq2 => ?_⟩
                have S24 := S23.grow (o := .tup [.ref q1]) hq2
                have g24 := same_new (o := .tup [.ref q1]) (S23.ms.sm.free hq2)
                refine ⟨(by show 2 ≤ sizeLine; decide), fun q3 hq3 => ?_⟩
                have S25 := S24.grow (o := .tup [.int 0, .int 0]) hq3
                have g25 := same_new (o := .tup [.int 0, .int 0]) (S24.ms.sm.free hq3)
                refine ⟨(by show 1 ≤ sizeLine; decide), fun q4 hq4 => ?_⟩
                have S26 := S25.grow (o := .tup [.ref q3]) hq4
                have g26 := same_new (o := .tup [.ref q3]) (S25.ms.sm.free hq4)
                refine ⟨(by show 7 ≤ sizeLine; decide), fun pT hpT => ?_⟩
                have S27 := S26.grow (o := .tup [w7, v7, .ref l1, .non, v', .ref q2, .ref q4]) hpT
                have g27 := same_new (o := .tup [w7, v7, .ref l1, .non, v', .ref q2, .ref q4]) (S26.ms.sm.free hpT)
                have k25 := g26.trans g27
                have k24 := g25.trans k25
                have k23 := g24.trans k24
                have k22 := g23.trans k23
                have k21 := s22.trans k22
                have k20 := g21.trans k21
                have b1 := sqL_same k21 (SqL.of (K := K) (upd_same (H := G20) (a := l1) (o := .lst ys7)))
                have b2 := sqT_same k23 (SqT.of (K := K) (upd_same (H := G22) (a := q1) (o := .tup [])))
                have b3 := sqT_same k24 (SqT.of (K := K) (upd_same (a := q2) (o := .tup [.ref q1])))
                have b4 := sqT_same k25 (SqT.of (K := K) (upd_same (a := q3) (o := .tup [.int 0, .int 0])))
                have b5 := sqT_same g27 (SqT.of (K := K) (upd_same (a := q4) (o := .tup [.ref q3])))
                have all7 := allDq_cons (.inl (r7.same k20).dp) (allDq_cons (.inl (p7.same k20).dp) (allDq_cons (dq_plst b1 (pt_all_same k20 pb7)) (allDq_cons (.inl .non) (allDq_cons ((dq22.same hid_sm).same k22) (allDq_cons (dq_ptup b3 (.cons (.tup b2 .nil) .nil))
                  (allDq_cons (dq_ptup b5 (.cons (.tup b4 (.cons (.int 0 (by decide)) (.cons (.int 0 (by decide)) .nil))) .nil)) allDq_nil))))))
                have hpT7 := upd_same (a := pT) (o := .tup [w7, v7, .ref l1, .non, v', .ref q2, .ref q4]) (H := upd (upd (upd (upd G22 q1 (.tup [])) q2 (.tup [.ref q1])) q3 (.tup [.int 0, .int 0])) q4 (.tup [.ref q3]))
                have S28 := S27.mono (T' := 2000 * (i : Int) + 1400) (by omega)
                generalize upd (upd (upd (upd (upd G22 q1 (.tup [])) q2 (.tup [.ref q1])) q3 (.tup [.int 0, .int 0])) q4 (.tup [.ref q3])) pT (.tup [w7, v7, .ref l1, .non, v', .ref q2, .ref q4]) = GL at S28 all7 hpT7
                generalize upd (upd (upd (upd (upd H22 q1 (.tup [])) q2 (.tup [.ref q1])) q3 (.tup [.int 0, .int 0])) q4 (.tup [.ref q3])) pT (.tup [w7, v7, .ref l1, .non, v', .ref q2, .ref q4]) = HL at S28 ⊢
                generalize ([w7, v7, .ref l1, .non, v', .ref q2, .ref q4] : List V) = L7 at all7 hpT7
                refine ⟨pT, rfl, ⟨_, SqT.of (S28.ms.sm _ _ hpT7)⟩, for_tup (xs := L7) (fun j σ H' => ∃ (o8 o10 : Option V), σ = [some (.ref a), some (.ref m), some (.int (0 + (i : Int))), some (.ref at_), some (.ref af), some (.ref ph), some (.ref x), some (.ref pt), o8, o9, o10, o11, none, none] ∧ ∃ G', StL TT K C at_ af x dx n ts fs m G' H' (2000 * (i : Int) + 1400) ∧ ExtN GL G')
                  ⟨_, _, rfl, GL, S28, ExtN.refl _⟩ (fun j σ H' _ pv => ?_) (fun j v σ H' hv pv => ?_) (fun σ H' pv => ?_)⟩
                · obtain ⟨_, _, _, G', S', eG⟩ := pv
                  exact SqT.of (S'.ms.sm _ _ (eG _ _ hpT7 fun _ z => nomatch z))
                · obtain ⟨o8'', o10', rfl, G', S', eG⟩ := pv
                  obtain ⟨d, dv⟩ := all7 v (List.mem_of_getElem? hv)
                  have dvH := (dv.ext eG).same S'.ms.sm
                  obtain ⟨at8, x8, e8', hX8, pX8⟩ := pt_items S'.pt
                  cases e8'
                  have lx8 := pr_len pX8
                  rw [List.length_map] at lx8
                  have hX8H := sqT_same S'.ms.sm hX8
                  refine ⟨_, rfl, at_, x8, rfl, .inr hX8H, ?_⟩
                  rw [lx8]
                  have scn : Sc (.int (ts.length : Int)) (.int (ts.length : Int)) := .int _ (by omega)
                  refine ⟨.int (ts.length : Int), .int (ts.length : Int), rfl, scn.dq, scn.rp.sh, scn.rp.len, scn.rp.dep, (by show 2 ≤ sizeLine; decide), fun pd hpd => ?_⟩
                  have nd := same_new (o := .tup [.str "tables", .str (PyData.int (ts.length : Int)).shown]) hpd
                  have hpd1 := upd_same (H := H') (a := pd) (o := .tup [.str "tables", .str (PyData.int (ts.length : Int)).shown])
                  generalize upd H' pd (.tup [.str "tables", .str (PyData.int (ts.length : Int)).shown]) = H30 at nd hpd1 ⊢
                  have hX30 := sqT_same nd hX8H
                  have pX30 := pt_all_same (Same.trans S'.ms.sm nd) pX8
                  have dv30 := dvH.same nd
                  obtain ⟨v8, hv8, p8⟩ := pr_at pX30 (show (ts.map tabD)[0]? = some (tabD t0) by rw [List.getElem?_map, ht0]; rfl)
                  obtain ⟨b8, ys8, e88, hb8, pb8⟩ := pt_items p8
                  have ly8 := pr_len pb8
                  rw [List.length_map, ot0.1] at ly8
                  refine ⟨fun σ' H' => ∃ (w : V) (dt : PyData), σ' = [some (.ref a), some (.ref m), some (.int (0 + (i : Int))), some (.ref at_), some (.ref af), some (.ref ph), some (.ref x), some (.ref pt), some v, o9, some w, o11, none, none] ∧ Same H30 H' ∧ Dp K H' w dt ∧ SeqAt.shaped dt = true ∧ DueWt ts n d dt, ?_, ?_⟩
                  · refine ⟨_, rfl, _, rfl, at_, x8, 0, v8, rfl, rfl, hX30, atI_nat (j := 0) hv8, b8, ys8, congrArg (fun z => [z]) e88, .inr hb8, ?_⟩
                    rw [ly8]
                    refine ⟨v, d, n, rfl, dv30, by omega, fun H31 s31 => ⟨_, rfl, ?_⟩⟩
                    rw [law_fits n1]
                    cases ft : fitsT n d with
                    | false =>
                      refine iteF ⟨_, _, rfl, s31, .tup (sqT_same s31 (SqT.of hpd1)) (.cons (.str _) (.cons (.str _) .nil)), shaped_two (by decide +kernel) scn.okS, fun t e ok' _ => ?_, fun z => ?_, fun _ => rfl⟩
                      · subst e
                        rw [fits_of ok' n1 n4] at ft
                        cases ft
                      · rw [ft] at z
                        cases z
                    | true =>
                      refine iteT ?_
                      refine ⟨_, rfl, at_, x8, rfl, .inr (sqT_same s31 hX30), ?_⟩
                      rw [lx8]
                      obtain ⟨t, et, ok'⟩ := fits_tab ft
                      refine ⟨_, _, rfl, rfl, _, rfl, ?_⟩
                      by_cases lt3 : ts.length < 3
                      · rw [decide_eq_true (show (ts.length : Int) < 3 by omega)]
                        refine iteT ?_
                        refine ⟨_, rfl, _, rfl, (by show 1 ≤ sizeLine; decide), fun q hq => ?_⟩
                        have nq := same_new (o := .tup [v]) hq
                        refine cat_new (sqT_same (s31.trans nq) hX30) (SqT.of upd_same) (line _ (by show _ + 1 ≤ _; omega)) fun c8 K8 u8 f8 => ?_
                        have sAll := (s31.trans nq).trans u8
                        have isTs := snoc_tabs (t := t) f8 (pt_all_same sAll pX30) (by rw [← et]; exact dv30.same sAll)
                        refine ⟨_, tabsD (ts ++ [t]), rfl, sAll, dp_tabs isTs, shaped_tabs _, fun t' e' _ _ => ?_, fun _ z => by omega, fun z => by rw [ft] at z; cases z⟩
                        rw [tabD_inj (et.symm.trans e')]
                      · rw [decide_eq_false (show ¬ (ts.length : Int) < 3 by omega)]
                        refine iteF ?_
                        refine ⟨(by show 2 ≤ sizeLine; decide), fun q hq => ?_⟩
                        exact ⟨_, toldD "tables" .none, rfl, s31.trans (same_new hq), .tup (SqT.of upd_same) (.cons (.str _) (.cons (.str _) .nil)), shaped_two (by decide +kernel) Sc.non.okS, fun t' e' _ z => by omega, fun _ _ => rfl, fun z => by rw [ft] at z; cases z⟩
                  · rintro σ' H31 ⟨w, dt, rfl, s31, dw, sh, due1, due2, due3⟩
                    have S31 := S'.same (Same.trans nd s31)
                    refine ⟨S31.tbH, fun H10 e10 tb10 => ?_⟩
                    have fin : ∀ (Hf : Hp), Same H10 Hf → ∃ (o8 o10 : Option V), [some (.ref a), some (.ref m), some (.int (0 + (i : Int))), some (.ref at_), some (.ref af), some (.ref ph), some (.ref x), some (.ref pt), some v, o9, some w, o11, none, none] = [some (.ref a), some (.ref m), some (.int (0 + (i : Int))), some (.ref at_), some (.ref af), some (.ref ph), some (.ref x), some (.ref pt), o8, o9, o10, o11, none, none] ∧ ∃ G', StL TT K C at_ af x dx n ts fs m G' Hf (2000 * (i : Int) + 1400) ∧ ExtN GL G' := fun Hf sf => by
                      obtain ⟨Gf, Sf, ef, _, _⟩ := S31.ext (e10.trans (ext_of sf)) (Tabs.ext tb10 sf)
                      exact ⟨_, _, rfl, Gf, Sf, eG.trans ef⟩
                    have dv10 := (dv30.same s31).ext e10
                    have dw10 := Dp.ext e10 dw
                    have fam10 := fam_ext e10 (fam_same S31.ms.sm S31.fam)
                    have fam10' := fam10
                    obtain ⟨gs, uv, hx, _, _, lwt, _, _, _⟩ := fam10'
                    refine ⟨_, rfl, x, dx, gs, rfl, hx, lwt, ?_⟩
                    refine ⟨_, rfl, ?_⟩
                    refine ⟨x, dx, n, ts, v, d, rfl, fam10, ok, dv10, fun t e ok' l3' y dy H11 s11 fam11 => ?_, fun ft l3' dd H11 s11 hdd => .inl ⟨rfl, dd, .non, .none, rfl, hdd, Sc.non.dq, Sc.non.rp, fun pq H12 s12 hpq => ?_⟩, fun ft dd H11 s11 hdd => .inl ⟨rfl, dd, .int (ts.length : Int), .int (ts.length : Int), rfl, hdd, scn.dq, scn.rp, fun pq H12 s12 hpq => ?_⟩⟩
                    · obtain ⟨gs2, uv2, hy, m1, _, _, _, _, hu⟩ := fam11
                      have ed := due1 t e ok' l3'
                      refine ⟨y, C, dy, gs2, uv2, rfl, hy, W.cls, W.tables, m1, _, rfl, tabsD (ts ++ [t]), dt, dp_tabs hu, Dp.same s11 dw10, shaped_tabs _, sh, _, rfl, ?_⟩
                      rw [ed, SeqAt.eqv_refl _ (lay_of_shaped (shaped_tabs _))]
                      exact iteF (fin _ s11)
                    · have ed := due2 ft l3'
                      refine ⟨_, rfl, toldD "tables" .none, dt, .tup hpq (.cons (.str _) (.cons (.str _) .nil)), Dp.same (s11.trans s12) dw10, shaped_two (by decide +kernel) Sc.non.okS, sh, _, rfl, ?_⟩
                      rw [ed, SeqAt.eqv_refl (toldD "tables" .none) (lay_of_shaped (shaped_two (by decide +kernel) Sc.non.okS))]
                      exact iteF (fin _ (s11.trans s12))
                    · have ed := due3 ft
                      refine ⟨_, rfl, toldD "tables" (.int (ts.length : Int)), dt, .tup hpq (.cons (.str _) (.cons (.str _) .nil)), Dp.same (s11.trans s12) dw10, shaped_two (by decide +kernel) scn.okS, sh, _, rfl, ?_⟩
                      rw [ed, SeqAt.eqv_refl (toldD "tables" (.int (ts.length : Int))) (lay_of_shaped (shaped_two (by decide +kernel) scn.okS))]
                      exact iteF (fin _ (s11.trans s12))
                · obtain ⟨o8'', o10', rfl, G', S', eG⟩ := pv
                  exact ⟨_, _, rfl, G', S'⟩
              · rintro σ' H40 ⟨o8', o10', rfl, G40, S40⟩
                obtain ⟨at9, x9, e9', hX9, pX9⟩ := pt_items S40.pt
                cases e9'
                have lx9 := pr_len pX9
                rw [List.length_map] at lx9
                have hX9H := sqT_same S40.ms.sm hX9
                refine ⟨_, rfl, _, rfl, at_, x9, rfl, .inr hX9H, ?_⟩
                rw [lx9]
                refine ⟨_, _, rfl, rfl, _, rfl, at_, x9, rfl, .inr hX9H, ?_⟩
                rw [lx9]
                refine ⟨(by show 6 ≤ sizeLine; decide), fun pK hpK => ?_⟩
                have S41 := S40.grow (o := .tup [.int (-1), .int 0, .int ((ts.length : Int) - 1), .int (ts.length : Int), .bl true, .non]) hpK
                have hpK7 := upd_same (H := G40) (a := pK) (o := .tup [.int (-1), .int 0, .int ((ts.length : Int) - 1), .int (ts.length : Int), .bl true, .non])
                have allK : AllSc [.int (-1), .int 0, .int ((ts.length : Int) - 1), .int (ts.length : Int), .bl true, .non] :=
                  allSc_cons (.int (-1) (by decide)) (allSc_cons (.int 0 (by decide)) (allSc_cons (.int ((ts.length : Int) - 1) (by omega)) (allSc_cons (.int (ts.length : Int) (by omega)) (allSc_cons (.bl true) (allSc_cons .non allSc_nil)))))
                have S42 := S41.mono (T' := 2000 * ((i + 1 : Nat) : Int)) (by omega)
                generalize upd G40 pK (.tup [.int (-1), .int 0, .int ((ts.length : Int) - 1), .int (ts.length : Int), .bl true, .non]) = GL at S42 hpK7
                generalize upd H40 pK (.tup [.int (-1), .int 0, .int ((ts.length : Int) - 1), .int (ts.length : Int), .bl true, .non]) = HL at S42 ⊢
                generalize ([.int (-1), .int 0, .int ((ts.length : Int) - 1), .int (ts.length : Int), .bl true, .non] : List V) = LK at allK hpK7
                refine ⟨pK, rfl, ⟨_, SqT.of (S42.ms.sm _ _ hpK7)⟩, for_tup (xs := LK) (fun j σ H' => ∃ (o8 o9 o10 o11 : Option V), σ = [some (.ref a), some (.ref m), some (.int (0 + (i : Int))), some (.ref at_), some (.ref af), some (.ref ph), some (.ref x), some (.ref pt), o8, o9, o10, o11, none, none] ∧ ∃ G', StL TT K C at_ af x dx n ts fs m G' H' (2000 * ((i + 1 : Nat) : Int)) ∧ ExtN GL G')
                  ⟨_, _, _, _, rfl, GL, S42, ExtN.refl _⟩ (fun j σ H' _ pv => ?_) (fun j v σ H' hv pv => ?_) (fun σ H' pv => ?_)⟩
                · obtain ⟨_, _, _, _, _, G', S', eG⟩ := pv
                  exact SqT.of (S'.ms.sm _ _ (eG _ _ hpK7 fun _ z => nomatch z))
                · obtain ⟨o8'', o9'', o10'', o11'', rfl, G', S', eG⟩ := pv
                  obtain ⟨d, sc⟩ := allK v (List.mem_of_getElem? hv)
                  have dvA : ∀ {HH : Hp}, Dq K HH v d := sc.dq
                  obtain ⟨at8, x8, e8', hX8, pX8⟩ := pt_items S'.pt
                  cases e8'
                  have lx8 := pr_len pX8
                  rw [List.length_map] at lx8
                  have hX8H := sqT_same S'.ms.sm hX8
                  have pX8H := pt_all_same S'.ms.sm pX8
                  refine ⟨fun σ' H2 => H2 = H' ∧ σ' = [some (.ref a), some (.ref m), some (.int (0 + (i : Int))), some (.ref at_), some (.ref af), some (.ref ph), some (.ref x), some (.ref pt), o8'', some v, o10'', some (.bl (below d (ts.length : Int) && decide (1 < ts.length))), none, none], ?_, ?_⟩
                  · refine ⟨_, rfl, _, rfl, at_, x8, rfl, .inr hX8H, ?_⟩
                    rw [lx8]
                    refine ⟨_, _, rfl, rfl, v, d, 0, (ts.length : Int) - 1, rfl, dvA, ?_⟩
                    rw [whole_below, show (ts.length : Int) - 1 + 1 = (ts.length : Int) by omega]
                    cases bd : below d (ts.length : Int) with
                    | false => exact ⟨_, rfl, iteF ⟨rfl, rfl⟩⟩
                    | true =>
                      refine ⟨_, rfl, iteT ?_⟩
                      refine ⟨_, rfl, at_, x8, rfl, .inr hX8H, ?_⟩
                      rw [lx8]
                      refine ⟨_, _, rfl, rfl, ?_⟩
                      refine ⟨rfl, ?_⟩
                      have hb : ∀ b : Bool, b = decide (1 < ts.length) → ([some (.ref a), some (.ref m), some (.int (0 + (i : Int))), some (.ref at_), some (.ref af), some (.ref ph), some (.ref x), some (.ref pt), o8'', some v, o10'', some (.bl b), none, none] : L2.St) = [some (.ref a), some (.ref m), some (.int (0 + (i : Int))), some (.ref at_), some (.ref af), some (.ref ph), some (.ref x), some (.ref pt), o8'', some v, o10'', some (.bl (true && decide (1 < ts.length))), none, none] := fun b hb => by rw [hb, Bool.true_and]
                      exact hb _ (decide_eq_decide.mpr (by omega))
                  · rintro σ' H2 ⟨rfl, rfl⟩
                    refine ⟨fun σ' H3 => ∃ (w : V) (dt : PyData) (o11 : Option V), σ' = [some (.ref a), some (.ref m), some (.int (0 + (i : Int))), some (.ref at_), some (.ref af), some (.ref ph), some (.ref x), some (.ref pt), o8'', some v, some w, o11, none, none] ∧ Same H2 H3 ∧ Dp K H3 w dt ∧ SeqAt.shaped dt = true ∧ DueWo ts d dt, ?_, ?_⟩
                    · refine ⟨_, rfl, _, rfl, ?_⟩
                      cases so : (below d (ts.length : Int) && decide (1 < ts.length)) with
                      | false =>
                        refine iteF ?_
                        refine ⟨_, rfl, v, d, rfl, dvA, sc.rp.sh, sc.rp.len, sc.rp.dep, (by show 2 ≤ sizeLine; decide), fun q hq => ?_⟩
                        refine ⟨_, toldD "number" d, _, rfl, same_new hq, .tup (SqT.of upd_same) (.cons (.str _) (.cons (.str _) .nil)), shaped_two (by decide +kernel) sc.okS, fun j' e' g1 g2 => ?_, fun _ => rfl⟩
                        subst e'
                        rw [decide_eq_true g2, Bool.and_true] at so
                        have : below (.int (j' : Int)) (ts.length : Int) = true := by
                          show (decide ((0 : Int) ≤ (j' : Int)) && decide ((j' : Int) < (ts.length : Int))) = true
                          rw [decide_eq_true (by omega), decide_eq_true (by omega)]
                          rfl
                        rw [this] at so
                        cases so
                      | true =>
                        rw [Bool.and_eq_true, decide_eq_true_eq] at so
                        obtain ⟨jn, ed, hjn⟩ := below_num so.1
                        have evd := dvA (HH := H2)
                        rw [ed] at evd
                        have ev := dq_int evd
                        refine iteT ?_
                        rw [ev]
                        have hj1 : jn < x8.length := by rw [lx8]; exact hjn
                        have cj : (jn : Int) + 1 = ((jn + 1 : Nat) : Int) := by omega
                        refine ⟨_, rfl, _, rfl, _, rfl, ?_⟩
                        dsimp only [tNoPart]
                        refine sl_new hX8H fun c1 K1 u1 f1 => ?_
                        rw [cut_to (Nat.le_of_lt hj1)] at f1
                        refine ⟨_, rfl, _, rfl, _, _, rfl, rfl, _, rfl, ?_⟩
                        dsimp only [tNoPart]
                        refine sl_new (sqT_same u1 hX8H) fun c2 K2 u2 f2 => ?_
                        rw [cj, cut_from hj1] at f2
                        refine cat_new (sqT_same u2 f1) f2 (line _ (by rw [List.length_take, List.length_drop]; omega)) fun c3 K3 u3 f3 => ?_
                        have sA := (u1.trans u2).trans u3
                        have dpc : Dp K K3 (.ref c3) (tabsD (cutAt ts jn)) := by
                          rw [← cut_tabs]
                          exact dp_ptup f3 (pt_all_same sA (pr_app (pr_take jn pX8H) (pr_drop (jn + 1) pX8H)))
                        refine ⟨_, _, _, rfl, sA, dpc, shaped_tabs _, fun j' e' _ _ => ?_, fun z => ?_⟩
                        · rw [ed] at e'
                          cases e'
                          rfl
                        · rw [so.1, decide_eq_false (by omega)] at z
                          cases z
                    · rintro σ' H3 ⟨w, dt, o11', rfl, sA, dw, sh, due1, due2⟩
                      have S31 := S'.same sA
                      refine ⟨S31.tbH, fun H10 e10 tb10 => ?_⟩
                      have fin : ∀ (Hf : Hp), Same H10 Hf → ∃ (o8 o9 o10 o11 : Option V), [some (.ref a), some (.ref m), some (.int (0 + (i : Int))), some (.ref at_), some (.ref af), some (.ref ph), some (.ref x), some (.ref pt), o8'', some v, some w, o11', none, none] = [some (.ref a), some (.ref m), some (.int (0 + (i : Int))), some (.ref at_), some (.ref af), some (.ref ph), some (.ref x), some (.ref pt), o8, o9, o10, o11, none, none] ∧ ∃ G', StL TT K C at_ af x dx n ts fs m G' Hf (2000 * ((i + 1 : Nat) : Int)) ∧ ExtN GL G' := fun Hf sf => by
                        obtain ⟨Gf, Sf, ef, _, _⟩ := S31.ext (e10.trans (ext_of sf)) (Tabs.ext tb10 sf)
                        exact ⟨_, _, _, _, rfl, Gf, Sf, eG.trans ef⟩
                      have dw10 := Dp.ext e10 dw
                      have fam10 := fam_ext e10 (fam_same S31.ms.sm S31.fam)
                      have fam10' := fam10
                      obtain ⟨gs, uv, hx, _, _, _, lwo, _, _⟩ := fam10'
                      refine ⟨_, rfl, x, dx, gs, rfl, hx, lwo, ?_⟩
                      refine ⟨_, rfl, ?_⟩
                      refine ⟨x, dx, n, ts, v, d, rfl, fam10, ok, dvA, fun j' e' g1 g2 y dy H11 s11 fam11 => ?_, fun bad dd H11 s11 hdd => .inr ⟨rfl, dd, v, d, rfl, hdd, dvA, sc.rp, fun pq H12 s12 hpq => ?_⟩⟩
                      · obtain ⟨gs2, uv2, hy, m1, _, _, _, _, hu⟩ := fam11
                        have ed := due1 j' e' g1 g2
                        refine ⟨y, C, dy, gs2, uv2, rfl, hy, W.cls, W.tables, m1, _, rfl, tabsD (cutAt ts j'), dt, dp_tabs hu, Dp.same s11 dw10, shaped_tabs _, sh, _, rfl, ?_⟩
                        rw [ed, SeqAt.eqv_refl _ (lay_of_shaped (shaped_tabs _))]
                        exact iteF (fin _ s11)
                      · have ed := due2 bad
                        refine ⟨_, rfl, toldD "number" d, dt, .tup hpq (.cons (.str _) (.cons (.str _) .nil)), Dp.same (s11.trans s12) dw10, shaped_two (by decide +kernel) sc.okS, sh, _, rfl, ?_⟩
                        rw [ed, SeqAt.eqv_refl (toldD "number" d) (lay_of_shaped (shaped_two (by decide +kernel) sc.okS))]
                        exact iteF (fin _ (s11.trans s12))
                · obtain ⟨_, _, _, _, rfl, G', S', eG⟩ := pv
                  exact ⟨G', _, _, _, _, _, _, _, _, _, _, rfl, S'.ms, S'.tb⟩
      · rintro σ H2 ⟨G0, o2, o3, o4, o5, o6, o7, o8, o9, o10, o11, rfl, M0, tb0⟩
        exact ⟨_, _, _, _, _, _, _, _, _, _, rfl, Tabs.ext tb0 M0.sm⟩
    · rintro σ' H0 ⟨o2, o3, o4, o5, o6, o7, o8, o9, o10, o11, rfl, tbF⟩
      refine ⟨tbF, fun H10 e10 tb10 => ?_⟩
      refine ⟨(by show 1 ≤ sizeLine; decide), fun q1 hq1 => ⟨(by show 1 ≤ sizeLine; decide), fun q2 hq2 => ⟨(by show 1 ≤ sizeLine; decide), fun q3 hq3 => ⟨(by show 1 ≤ sizeLine; decide), fun q4 hq4 => ⟨(by show 2 ≤ sizeLine; decide), fun l1 hl1 => ?_⟩⟩⟩⟩⟩
      have n5 := same_new (o := .lst [.ref q2, .ref q4]) hl1
      have n4 := (same_new (o := .tup [.ref q3]) hq4).trans n5
      have n3 := (same_new (o := .tup [.int 10]) hq3).trans n4
      have n2 := (same_new (o := .tup [.ref q1]) hq2).trans n3
      have n1 := (same_new (o := .tup [.int 9]) hq1).trans n2
      have pa1 := pt_one (K := K) (i := 9) (by decide) (SqT.of (n2 _ _ upd_same)) (SqT.of (n3 _ _ upd_same))
      have pa2 := pt_one (K := K) (i := 10) (by decide) (SqT.of (n4 _ _ upd_same)) (SqT.of (n5 _ _ upd_same))
      refine mk_any (C := C) (d := .list [tabD [[9]], tabD [[10]]]) (dq_plst (SqL.of upd_same) (.cons pa1 (.cons pa2 .nil))) (fun hv => absurd hv (by decide +kernel)) (fun p hp dd H11 s11 hdd => ?_)
      have ep : p = some 1 := Option.some.inj (hp.symm.trans (by decide +kernel : verdict (.list [tabD [[9]], tabD [[10]]]) = some (some 1)))
      subst ep
      have sc1 : Sc (.int 1) (.int 1) := .int 1 (by decide)
      refine .inl ⟨rfl, dd, .int 1, .int 1, rfl, hdd, sc1.dq, sc1.rp, fun pq H12 s12 hpq => ?_⟩
      refine ⟨(by show 2 ≤ sizeLine; decide), fun q5 hq5 => ?_⟩
      have n6 := same_new (o := .tup [.str "tables", .str "1"]) hq5
      refine ⟨toldD "tables" (.int 1), .tuple [.str "tables", .str "1"], .tup (sqT_same n6 hpq) (.cons (.str _) (.cons (.str _) .nil)), .tup (SqT.of upd_same) (.cons (.str _) (.cons (.str _) .nil)), shaped_two (by decide +kernel) sc1.okS, shaped_two (by decide +kernel) (by decide +kernel), _, rfl, ?_⟩
      rw [show PyData.eqv (toldD "tables" (.int 1)) (.tuple [.str "tables", .str "1"]) = true by decide +kernel]
      refine iteF ?_
      have tb12 := Tabs.ext tb10 (((n1.trans s11).trans s12).trans n6)
      generalize upd H12 q5 (.tup [.str "tables", .str "1"]) = H20 at tb12 ⊢
      -- held
      refine ⟨(by show 1 ≤ sizeLine; decide), fun q1 hq1 => ⟨(by show 1 ≤ sizeLine; decide), fun q2 hq2 => ⟨(by show 1 ≤ sizeLine; decide), fun q3 hq3 => ⟨(by show 1 ≤ sizeLine; decide), fun q4 hq4 => ⟨(by show 2 ≤ sizeLine; decide), fun l1 hl1 => ?_⟩⟩⟩⟩⟩
      have n5 := same_new (o := .lst [.ref q2, .ref q4]) hl1
      have n4 := (same_new (o := .tup [.ref q3]) hq4).trans n5
      have n3 := (same_new (o := .tup [.int 2]) hq3).trans n4
      have n2 := (same_new (o := .tup [.ref q1]) hq2).trans n3
      have n1 := (same_new (o := .tup [.int 1]) hq1).trans n2
      have pa1 := pt_one (K := K) (i := 1) (by decide) (SqT.of (n2 _ _ upd_same)) (SqT.of (n3 _ _ upd_same))
      have pa2 := pt_one (K := K) (i := 2) (by decide) (SqT.of (n4 _ _ upd_same)) (SqT.of (n5 _ _ upd_same))
      have okH : FamOk 1 (ones [1, 2]) := ones_ok (by decide) (by decide) (by decide)
      refine mk_good (C := C) (d := .list [tabD [[1]], tabD [[2]]]) (ts := ones [1, 2]) (dq_plst (SqL.of upd_same) (.cons pa1 (.cons pa2 .nil))) (verdict_good okH) rfl okH fun x dx H21 s21 famH => ?_
      have tb21 := Tabs.ext tb12 (n1.trans s21)
      clear pa1 pa2 n1 n2 n3 n4 n5
      refine ⟨_, rfl, ?_⟩
      refine ⟨(by show 1 ≤ sizeLine; decide), fun q1 hq1 => ⟨(by show 1 ≤ sizeLine; decide), fun q2 hq2 => ⟨(by show 1 ≤ sizeLine; decide), fun q3 hq3 => ⟨(by show 1 ≤ sizeLine; decide), fun q4 hq4 => ⟨(by show 2 ≤ sizeLine; decide), fun l1 hl1 => ?_⟩⟩⟩⟩⟩
      have n5 := same_new (o := .lst [.ref q2, .ref q4]) hl1
      have n4 := (same_new (o := .tup [.ref q3]) hq4).trans n5
      have n3 := (same_new (o := .tup [.int 1]) hq3).trans n4
      have n2 := (same_new (o := .tup [.ref q1]) hq2).trans n3
      have n1 := (same_new (o := .tup [.int 2]) hq1).trans n2
      have pa1 := pt_one (K := K) (i := 2) (by decide) (SqT.of (n2 _ _ upd_same)) (SqT.of (n3 _ _ upd_same))
      have pa2 := pt_one (K := K) (i := 1) (by decide) (SqT.of (n4 _ _ upd_same)) (SqT.of (n5 _ _ upd_same))
      have ok1 : FamOk 1 (ones [2, 1]) := ones_ok (by decide) (by decide) (by decide)
      refine mk_good (C := C) (d := .list [tabD [[2]], tabD [[1]]]) (ts := ones [2, 1]) (dq_plst (SqL.of upd_same) (.cons pa1 (.cons pa2 .nil))) (verdict_good ok1) rfl ok1 fun y dy H22 s22 fam1 => ?_
      have fam22 := fam_same (n1.trans s22) famH
      have tb22 := Tabs.ext tb21 (n1.trans s22)
      clear pa1 pa2 n1 n2 n3 n4 n5
      refine ⟨x, dx, 1, _, rfl, fam22, .inr ⟨y, dy, 1, _, rfl, fam1, ?_⟩⟩
      rw [show eqT (ones [1, 2]) (ones [2, 1]) = false by decide +kernel]
      refine ⟨_, rfl, iteF ?_⟩
      refine ⟨_, rfl, ?_⟩
      refine ⟨(by show 1 ≤ sizeLine; decide), fun q1 hq1 => ⟨(by show 1 ≤ sizeLine; decide), fun q2 hq2 => ⟨(by show 1 ≤ sizeLine; decide), fun q3 hq3 => ⟨(by show 1 ≤ sizeLine; decide), fun q4 hq4 => ⟨(by show 2 ≤ sizeLine; decide), fun l1 hl1 => ?_⟩⟩⟩⟩⟩
      have n5 := same_new (o := .lst [.ref q2, .ref q4]) hl1
      have n4 := (same_new (o := .tup [.ref q3]) hq4).trans n5
      have n3 := (same_new (o := .tup [.int 3]) hq3).trans n4
      have n2 := (same_new (o := .tup [.ref q1]) hq2).trans n3
      have n1 := (same_new (o := .tup [.int 1]) hq1).trans n2
      have pa1 := pt_one (K := K) (i := 1) (by decide) (SqT.of (n2 _ _ upd_same)) (SqT.of (n3 _ _ upd_same))
      have pa2 := pt_one (K := K) (i := 3) (by decide) (SqT.of (n4 _ _ upd_same)) (SqT.of (n5 _ _ upd_same))
      have ok2 : FamOk 1 (ones [1, 3]) := ones_ok (by decide) (by decide) (by decide)
      refine mk_good (C := C) (d := .list [tabD [[1]], tabD [[3]]]) (ts := ones [1, 3]) (dq_plst (SqL.of upd_same) (.cons pa1 (.cons pa2 .nil))) (verdict_good ok2) rfl ok2 fun y2 dy2 H23 s23 fam2 => ?_
      have fam23 := fam_same (n1.trans s23) fam22
      have tb23 := Tabs.ext tb22 (n1.trans s23)
      clear pa1 pa2 n1 n2 n3 n4 n5
      refine ⟨x, dx, 1, _, rfl, fam23, .inr ⟨y2, dy2, 1, _, rfl, fam2, ?_⟩⟩
      rw [show eqT (ones [1, 2]) (ones [1, 3]) = false by decide +kernel]
      refine ⟨_, rfl, iteF ?_⟩
      refine ⟨_, rfl, ?_⟩
      refine ⟨(by show 1 ≤ sizeLine; decide), fun q1 hq1 => ⟨(by show 1 ≤ sizeLine; decide), fun q2 hq2 => ⟨(by show 1 ≤ sizeLine; decide), fun q3 hq3 => ⟨(by show 1 ≤ sizeLine; decide), fun q4 hq4 => ⟨(by show 2 ≤ sizeLine; decide), fun l1 hl1 => ?_⟩⟩⟩⟩⟩
      have n5 := same_new (o := .tup [.ref q2, .ref q4]) hl1
      have n4 := (same_new (o := .tup [.ref q3]) hq4).trans n5
      have n3 := (same_new (o := .tup [.int 2]) hq3).trans n4
      have n2 := (same_new (o := .tup [.ref q1]) hq2).trans n3
      have n1 := (same_new (o := .tup [.int 1]) hq1).trans n2
      have pa1 := pt_one (K := K) (i := 1) (by decide) (SqT.of (n2 _ _ upd_same)) (SqT.of (n3 _ _ upd_same))
      have pa2 := pt_one (K := K) (i := 2) (by decide) (SqT.of (n4 _ _ upd_same)) (SqT.of (n5 _ _ upd_same))
      refine mk_good (C := C) (d := .tuple [tabD [[1]], tabD [[2]]]) (ts := ones [1, 2]) (dq_ptup (SqT.of upd_same) (.cons pa1 (.cons pa2 .nil))) (verdict_good okH) rfl okH fun y3 dy3 H24 s24 fam3 => ?_
      have fam24 := fam_same (n1.trans s24) fam23
      have tb24 := Tabs.ext tb23 (n1.trans s24)
      clear pa1 pa2 n1 n2 n3 n4 n5
      refine ⟨x, dx, 1, _, y3, dy3, 1, _, rfl, fam24, rfl, fam3, ?_⟩
      rw [eqT_refl]
      refine ⟨_, rfl, iteF ?_⟩
      -- five
      refine ⟨_, rfl, by decide, by decide, fun D hD => lcR_new (F := IsRow K) st_row (ds := List.replicate 5 [0, 0, 0, 0, 0]) hD rfl (by decide) (fun _ => rfl) (fun j r H' Q' hj hr s' k' => ?_) (fun ys H25 s25 hD25 p25 => ?_)⟩
      · have er : r = [0, 0, 0, 0, 0] := by
          have := List.mem_of_getElem? hr
          exact List.eq_of_mem_replicate this
        subst er
        refine ⟨(by show 1 ≤ sizeLine; decide), fun q hq => ⟨q, 5, [.int 0], rfl, rfl, SqT.of upd_same, by simp, by decide, by decide, by decide, fun p hp => ?_⟩⟩
        exact k' (.ref p) _ ((same_new hq).trans (same_new hp)) ⟨p, rfl, SqT.of upd_same⟩
      · dsimp only [tNil]
        refine tup_any (.inl (SqL.of hD25)) fun b H26 s26 hb => ?_
        have tb26 := Tabs.ext tb24 (s25.trans s26)
        have isF : IsTab K H26 (.ref b) (List.replicate 5 [0, 0, 0, 0, 0]) := ⟨b, ys, rfl, hb, pr_ts st_row (TS.of s26) p25⟩
        refine ⟨tb26, fun H30 e30 tb30 => ?_⟩
        have is30 := st_tab _ _ _ _ (ts_ext e30) isF
        refine ⟨_, rfl, (by show 1 ≤ sizeLine; decide), fun l2 hl2 => ?_⟩
        have m2 := same_new (o := .lst [.ref b]) hl2
        have isL := st_tab _ _ _ _ (TS.of m2) is30
        refine mk_any (C := C) (d := .list [tabD (List.replicate 5 [0, 0, 0, 0, 0])]) (.inl (.lst (SqL.of upd_same) (.cons (dp_tab isL) .nil))) (fun hv => absurd hv (by decide +kernel)) (fun p hp dd H31 s31 hdd => ?_)
        have ep : p = some 0 := Option.some.inj (hp.symm.trans (by decide +kernel : verdict (.list [tabD (List.replicate 5 [0, 0, 0, 0, 0])]) = some (some 0)))
        subst ep
        have sc0 : Sc (.int 0) (.int 0) := .int 0 (by decide)
        refine .inl ⟨rfl, dd, .int 0, .int 0, rfl, hdd, sc0.dq, sc0.rp, fun pq H32 s32 hpq => ?_⟩
        refine ⟨(by show 2 ≤ sizeLine; decide), fun q5 hq5 => ?_⟩
        have n6 := same_new (o := .tup [.str "tables", .str "0"]) hq5
        refine ⟨toldD "tables" (.int 0), .tuple [.str "tables", .str "0"], .tup (sqT_same n6 hpq) (.cons (.str _) (.cons (.str _) .nil)), .tup (SqT.of upd_same) (.cons (.str _) (.cons (.str _) .nil)), shaped_two (by decide +kernel) sc0.okS, shaped_two (by decide +kernel) (by decide +kernel), ?_⟩
        rw [show PyData.eqv (toldD "tables" (.int 0)) (.tuple [.str "tables", .str "0"]) = true by decide +kernel]
        refine ⟨_, rfl, iteT ?_⟩
        generalize upd H32 q5 (.tup [.str "tables", .str "0"]) = H40
        refine ⟨(by show 1 ≤ sizeLine; decide), fun q1 hq1 => ⟨(by show 1 ≤ sizeLine; decide), fun q2 hq2 => ⟨(by show 1 ≤ sizeLine; decide), fun l1 hl1 => ?_⟩⟩⟩
        have n3 := same_new (o := .lst [.ref q2]) hl1
        have n2 := (same_new (o := .tup [.ref q1]) hq2).trans n3
        have pa1 := pt_one (K := K) (i := 1) (by decide) (SqT.of (n2 _ _ upd_same)) (SqT.of (n3 _ _ upd_same))
        have ok5 : FamOk 1 (ones [1]) := ones_ok (by decide) (by decide) (by decide)
        refine mk_good (C := C) (d := .list [tabD [[1]]]) (ts := ones [1]) (dq_plst (SqL.of upd_same) (.cons pa1 .nil)) (verdict_good ok5) rfl ok5 fun y5 dy5 H41 s41 fam5 => ?_
        clear pa1 n2 n3
        refine ⟨(by show 1 ≤ sizeLine; decide), fun q1 hq1 => ⟨(by show 1 ≤ sizeLine; decide), fun q2 hq2 => ⟨(by show 1 ≤ sizeLine; decide), fun q3 hq3 => ⟨(by show 1 ≤ sizeLine; decide), fun q4 hq4 => ⟨(by show 2 ≤ sizeLine; decide), fun l1 hl1 => ?_⟩⟩⟩⟩⟩
        have n5 := same_new (o := .lst [.ref q2, .ref q4]) hl1
        have n4 := (same_new (o := .tup [.ref q3]) hq4).trans n5
        have n3 := (same_new (o := .tup [.int 1]) hq3).trans n4
        have n2 := (same_new (o := .tup [.ref q1]) hq2).trans n3
        have n1 := (same_new (o := .tup [.int 1]) hq1).trans n2
        have pa1 := pt_one (K := K) (i := 1) (by decide) (SqT.of (n2 _ _ upd_same)) (SqT.of (n3 _ _ upd_same))
        have pa2 := pt_one (K := K) (i := 1) (by decide) (SqT.of (n4 _ _ upd_same)) (SqT.of (n5 _ _ upd_same))
        have ok6 : FamOk 1 (ones [1, 1]) := ones_ok (by decide) (by decide) (by decide)
        refine mk_good (C := C) (d := .list [tabD [[1]], tabD [[1]]]) (ts := ones [1, 1]) (dq_plst (SqL.of upd_same) (.cons pa1 (.cons pa2 .nil))) (verdict_good ok6) rfl ok6 fun y6 dy6 H42 s42 fam6 => ?_
        refine ⟨y5, dy5, 1, _, y6, dy6, 1, _, rfl, fam_same (n1.trans s42) fam5, rfl, fam6, ?_⟩
        rw [show eqT (ones [1]) (ones [1, 1]) = false by decide +kernel]
        exact k _
end
end G

set_option Elab.async false
set_option maxRecDepth 100000
/-! The law's own call where the law and one def that it calls make lambdas: both codes' tables are tracked. -/
namespace G
open PySem L2 PySem.Spec PyProof.Rows LamX
section
variable {P : Program} {w : World} {K : PySem.W.Frag} {mg mb : Str → Option Value} {k : Nat} {fa a c c' Pt Pu : Addr} {fd : FuncData} {x : Str} {sp : Sp} {s : Shared} {us : List Value} {ns : List Int}
theorem lawT2_from {H : Hp} (inK : K.In s.heap) (gl : s.heap.Ns mainGlobals mg) (bl : s.heap.Ns builtinsNs mb)
    (bb : ∀ x : Str, x ≠ "__name__" → mb x = bootBuiltins x) (room : s.heap.NoLimit) (g0 : s.gens = #[]) (bmod : BMod mg s.heap)
    (sc : s.heap.get? a = some { cls := .type "list", data := .seq us.toArray }) (tb : s.heap.get? Pt = some { cls := .none, data := .fields #[] }) (cK : PySem.W.codeHdIn K c Pt = true) (nP : K.lookup Pt = none) (tb' : s.heap.get? Pu = some { cls := .none, data := .fields #[] }) (cK' : PySem.W.codeHdIn K c' Pu = true) (nP' : K.lookup Pu = none) (hr : Room k callerA)
    (F : ∀ base : Heap, K.In base → base.Ns mainGlobals mg → TabB base mg c Pt → TabB base mg c' Pu → FnG P w K mg base CX0 k fa fd [x] sp)
    (bt : ∀ (s : Shared) (u : Value), BindsTo s fd ⟨[u], []⟩ [(x, u)])
    (only : ∀ b, b ≠ Pt → b ≠ Pu → H b = none ∨ ∃ o xs, H b = some (.frz o (.lst xs))) (hP : H Pt = some (.tbl #[])) (hP' : H Pu = some (.tbl #[])) (at_ : ∀ b, H b ≠ none → b = a ∨ b = Pt ∨ b = Pu) (out : H a ≠ none → K.lookup a = none) (ok : HOk P w H s.heap)
    (hq : sp [.ref a] H (fun v _ => v = .bl true) fun _ _ _ => False) : LawEnd P fa a w s := by
  have low : ∀ {b : Addr} {o : Obj}, s.heap.get? b = some o → H b = none → (hidT s.heap H).get? b = some o :=
    fun h1 h2 => hidT_get h1 h2
  have unlike : ∀ {b : Addr} {o : Obj}, s.heap.get? b = some o → (∀ vs n, o.data ≠ .seq vs n) → o.data ≠ .fields #[] → H b = none := fun {b o} h1 h2 h3 => by
    refine Classical.byContradiction fun ne => ?_
    rcases at_ b ne with e | e | e
    · rw [e, sc] at h1
      cases h1
      exact h2 _ _ rfl
    · rw [e, tb] at h1
      cases h1
      exact h3 rfl
    · rw [e, tb'] at h1
      cases h1
      exact h3 rfl
  have dicts : ∀ {b : Addr} {m : Str → Option Value}, s.heap.Ns b m → (hidT s.heap H).Ns b m := by
    rintro b m ⟨o, es, ep, h1, h2, h3⟩
    exact ⟨o, es, ep, low h1 (unlike h1 (fun vs n z => by rw [h2] at z; cases z) (fun z => by rw [h2] at z; cases z)), h2, h3⟩
  have inB : K.In (hidT s.heap H) := fun b o e => low (inK b o e) (by
    refine Classical.byContradiction fun ne => ?_
    rcases at_ b ne with z | z | z
    · rw [z] at e ne
      rw [out ne] at e
      cases e
    · rw [z, nP] at e
      cases e
    · rw [z, nP'] at e
      cases e)
  obtain ⟨mc, l1, l2⟩ := room
  have md : Mod K mg (hidT s.heap H) := ⟨inB, dicts gl, ⟨mb, dicts bl, bb⟩, mc, dicts l1, l2⟩
  have none_in : ∀ b : Addr, b ∉ ([] : List Addr) := fun b z => nomatch z
  have env : Env0 P w K mg (hidT s.heap H) callerA [] s H :=
    ⟨rfl, md, fun b o e => of_hidT e, Nat.le_of_eq (hidT_size _ _), trivial, fun b z => (none_in b z).elim, ok, .of_eq g0⟩
  have TB : ∀ {c Pt : Addr}, s.heap.get? Pt = some { cls := .none, data := .fields #[] } → PySem.W.codeHdIn K c Pt = true → TabB (hidT s.heap H) mg c Pt := fun {c Pt} tb cK => by
    have gP : mainGlobals ≠ Pt := fun z => by
      obtain ⟨o, es, ep, e, hd, _⟩ := gl
      rw [z, tb] at e
      cases e
      cases hd
    refine ⟨PySem.W.codeHd_of_K inB cK, ?_, gP⟩
    obtain ⟨bm, ob, b1, b2, b3, b4, b5, b6⟩ := bmod
    refine ⟨bm, ob, b1, b2, fun z => ?_, fun z => ?_, low b3 (unlike b3 (fun vs n z => by rw [b6] at z; cases z) (fun z => by rw [b6] at z; cases z)), b4, b5, b6⟩
    · obtain ⟨o, es, ep, e, hd, _⟩ := gl
      rw [z, e] at b3
      cases b3
      rw [hd] at b6
      cases b6
    · rw [z, tb] at b3
      cases b3
      cases b6
  refine codeAny_mono ((F _ inB (dicts gl) (TB tb cK) (TB tb' cK')).go callerA [] s H ⟨[.ref a], []⟩ [.ref a] [.ref a] _ _ rfl hr env (bt s (.ref a)) (.cons rfl .nil) hq) fun r s2 z => ?_
  cases r with
  | error e => exact z.elim
  | ok fl =>
    cases fl with
    | next => exact z.elim
    | brk => exact z.elim
    | cont => exact z.elim
    | ret u =>
      obtain ⟨v, H2, h1, h2, un, ok2, rv, ev⟩ := z
      have ev' : v = .bl true := ev
      rw [ev'] at rv
      have ru : u = Value.bool true := rv
      rw [ru]
      have kept : ∀ b o, b ≠ Pt → b ≠ Pu → s.heap.get? b = some o → s2.heap.get? b = some o := fun b o ne ne' e => by
        rcases only b ne ne' with q | ⟨ob, xs, q⟩
        · exact un.keep b o e q (none_in b) (none_in b)
        · have q1 := (ok b _ q).1
          have q2 := (ok2 b _ (un.frzs b ob _ q)).1
          rw [e] at q1
          cases q1
          exact q2
      have grown : ∀ {P : Addr}, H P = some (.tbl #[]) → ∃ more, s2.heap.get? P = some { cls := .none, data := .fields (#[] ++ more) } := fun {P} hP => by
        obtain ⟨more, hm⟩ := un.tbls P #[] hP
        exact ⟨more, ok2 P _ hm⟩
      obtain ⟨more, gr1⟩ := grown hP
      obtain ⟨more', gr2⟩ := grown hP'
      refine ⟨rfl, ⟨fun b o e => ?_, fun b o e => ?_⟩, h1, h2⟩
      · by_cases hb : b = Pt
        · subst hb
          rw [tb] at e
          cases e
          exact .inr (.inl ⟨((PySem.W.codeHd_of_K inK cK).tab tb).isCodeTable, rfl, #[], more, rfl, gr1⟩)
        · by_cases hb' : b = Pu
          · subst hb'
            rw [tb'] at e
            cases e
            exact .inr (.inl ⟨((PySem.W.codeHd_of_K inK cK').tab tb').isCodeTable, rfl, #[], more', rfl, gr2⟩)
          · exact .inl (kept b o hb hb' e)
      · by_cases hb : b = Pt
        · subst hb
          exact ⟨_, gr1⟩
        · by_cases hb' : b = Pu
          · subst hb'
            exact ⟨_, gr2⟩
          · exact ⟨o, kept b o hb hb' e⟩
def twoT (Pt Pu : Addr) : Hp := fun b => if b = Pt ∨ b = Pu then some (.tbl #[]) else none
theorem twoT_l {Pt Pu : Addr} : twoT Pt Pu Pt = some (.tbl #[]) := if_pos (.inl rfl)
theorem twoT_r {Pt Pu : Addr} : twoT Pt Pu Pu = some (.tbl #[]) := if_pos (.inr rfl)
theorem twoT_no {Pt Pu b : Addr} (h : b ≠ Pt) (h' : b ≠ Pu) : twoT Pt Pu b = none := if_neg fun z => z.elim h h'
theorem lawT2_go (inK : K.In s.heap) (gl : s.heap.Ns mainGlobals mg) (bl : s.heap.Ns builtinsNs mb)
    (bb : ∀ x : Str, x ≠ "__name__" → mb x = bootBuiltins x) (room : s.heap.NoLimit) (g0 : s.gens = #[]) (bmod : BMod mg s.heap)
    (sc : s.heap.get? a = some { cls := .type "list", data := .seq us.toArray }) (tb : s.heap.get? Pt = some { cls := .none, data := .fields #[] }) (cK : PySem.W.codeHdIn K c Pt = true) (nP : K.lookup Pt = none) (tb' : s.heap.get? Pu = some { cls := .none, data := .fields #[] }) (cK' : PySem.W.codeHdIn K c' Pu = true) (nP' : K.lookup Pu = none)
    (hi : IntsAre us ns) (hl : ns.length ≤ sizeLine) (hr : Room k callerA)
    (F : ∀ base : Heap, K.In base → base.Ns mainGlobals mg → TabB base mg c Pt → TabB base mg c' Pu → FnG P w K mg base CX0 k fa fd [x] sp)
    (bt : ∀ (s : Shared) (u : Value), BindsTo s fd ⟨[u], []⟩ [(x, u)])
    (hq : ∀ H : Hp, H Pt = some (.tbl #[]) → H Pu = some (.tbl #[]) → SqL K H a (ns.map V.int) → sp [.ref a] H (fun v _ => v = .bl true) fun _ _ _ => False) : LawEnd P fa a w s := by
  have rel := vals_ints hi
  have ln := hi.length
  have ne : Pt ≠ a := fun z => by
    rw [z, sc] at tb
    cases tb
  have ne' : Pu ≠ a := fun z => by
    rw [z, sc] at tb'
    cases tb'
  have okP : ∀ (G : Hp) (b : Addr) (u : HO), twoT Pt Pu b = some u → ObjOk P w G s.heap b u := fun G b u z => by
    by_cases hb : b = Pt
    · subst hb
      rw [twoT_l] at z
      cases z
      exact tb
    · by_cases hb' : b = Pu
      · subst hb'
        rw [twoT_r] at z
        cases z
        exact tb'
      · rw [twoT_no hb hb'] at z
        cases z
  have at0 : ∀ b, twoT Pt Pu b ≠ none → b = Pt ∨ b = Pu := fun b z => by
    refine Classical.byContradiction fun q => z (twoT_no (fun h => q (.inl h)) fun h => q (.inr h))
  cases lk : K.lookup a with
  | some o =>
    have e := inK a o lk
    rw [sc] at e
    cases e
    refine lawT2_from (H := twoT Pt Pu) inK gl bl bb room g0 bmod sc tb cK nP tb' cK' nP' hr F bt (fun b hb hb' => .inl (twoT_no hb hb')) twoT_l twoT_r (fun b z => .inr (at0 b z)) (fun z => (z (twoT_no ne.symm ne'.symm)).elim)
      (okP _) (hq _ twoT_l twoT_r (.inr ?_))
    exact ⟨_, us.toArray, _, lk, rfl, rfl, rfl, by rw [List.size_toArray, ln]; exact hl, by simpa using rel⟩
  | none =>
    let ob : Obj := { cls := .type "list", data := .seq us.toArray }
    have e1 : ∀ {b : Addr}, b ≠ a → upd (twoT Pt Pu) a (.frz ob (.lst (ns.map V.int))) b = twoT Pt Pu b := fun h => upd_ne h
    refine lawT2_from (H := upd (twoT Pt Pu) a (.frz ob (.lst (ns.map V.int)))) inK gl bl bb room g0 bmod sc tb cK nP tb' cK' nP' hr F bt (fun b hb hb' => ?_) (by rw [e1 ne, twoT_l]) (by rw [e1 ne', twoT_r]) (fun b z => ?_) (fun _ => lk)
      (fun b u z => ?_) (hq _ (by rw [e1 ne, twoT_l]) (by rw [e1 ne', twoT_r]) (.inl (.inr ⟨ob, upd_same⟩)))
    · by_cases h : b = a
      · subst h
        exact .inr ⟨_, _, upd_same⟩
      · rw [e1 h]
        exact .inl (twoT_no hb hb')
    · by_cases h : b = a
      · exact .inl h
      · rw [e1 h] at z
        exact .inr (at0 b z)
    · by_cases hb : b = a
      · subst hb
        rw [upd_same] at z
        cases z
        exact ⟨sc, by rw [List.length_map]; exact hl, us, _, rel, sc⟩
      · rw [e1 hb] at z
        exact okP _ b u z
end
/-- the goal that the head leaves -/
theorem walkGT2 {l : PySem.W.OpenLaw} {n k : Nat} {q : Program} {loose : List Str} {XP : (Str → Option Value) → Heap → Prop} {YP : World → Heap → Prop}
    {d : DefRec} {x2 : Str} {K : Params → PySem.W.Frag} {sp : World → Addr → Addr → Sp} {x : Str} (hn : l.most = some n) (n2 : n ≤ sizeLine)
    (hdf : d.params.defaults = []) (hr : Room k callerA) (hrec : ((recsOf q).any fun e => e.name == d.name) = true) (hrec2 : ((recsOf q).any fun e => e.name == x2) = true) (hY : ∀ (w : World) (h : Heap), YP w h → (K w.params).In h)
    (F : ∀ (w : World) (mg : Str → Option Value) (fa : Addr) (h : Heap), (K w.params).In h → h.Ns mainGlobals mg → mg d.name = some (.ref fa) →
      ∃ (fd : FuncData) (fb c Pt c2 Pu : Addr), (∀ (s : Shared) (u : Value), BindsTo s fd ⟨[u], []⟩ [(x, u)]) ∧ mg x2 = some (.ref fb) ∧ OwnT (K w.params) fa c Pt ∧ PySem.W.codeHdIn (K w.params) c Pt = true ∧ (K w.params).lookup Pt = none ∧
        OwnT (K w.params) fb c2 Pu ∧ PySem.W.codeHdIn (K w.params) c2 Pu = true ∧ (K w.params).lookup Pu = none ∧
        (∀ base : Heap, (K w.params).In base → base.Ns mainGlobals mg → TabB base mg c Pt → TabB base mg c2 Pu → FnG l.prog w (K w.params) mg base CX0 k fa fd [x] (sp w Pt Pu)))
    (hq : ∀ (w : World) (H : Hp) (a Pt Pu : Addr) (ns : List Int), ns.length ≤ n → H Pt = some (.tbl #[]) → H Pu = some (.tbl #[]) → SqL (K w.params) H a (ns.map V.int) →
      sp w Pt Pu [.ref a] H (fun v _ => v = .bl true) fun _ _ _ => False) :
    PySem.W.WalkO q loose XP YP l.row.toRowW d [] (fun f vs => PySem.call f vs) := by
  refine Att.attach_callB hn hdf fun w s₀ s mg mb fa o pm cd doc a us ns gr Y _ _ _ hm sc hi hl _ g0 => ?_
  have inK := hY w _ Y
  obtain ⟨fd, fb, c, Pt, c2, Pu, bt, hm2, own1, cK, nP, own2, cK2, nP2, G⟩ := F w mg fa _ inK gr.T.g hm
  have tbOf : ∀ {e : Str} {fa c Pt : Addr}, ((recsOf q).any fun r => r.name == e) = true → mg e = some (.ref fa) → OwnT (K w.params) fa c Pt → s.heap.get? Pt = some { cls := .none, data := .fields #[] } := fun {e fa c Pt} hrec hm own => by
    obtain ⟨fd1, oc, e, od, dd, osl, sl, vs, k1, k3, k4, k5⟩ := own
    obtain ⟨dl, m1, m2⟩ := List.any_eq_true.mp hrec
    obtain ⟨b1, o1, fd2, c1, P1, h1, h2, h3, h4, h5, h6⟩ := gr.T.tab dl m1
    rw [beq_iff_eq.mp m2, hm] at h1
    cases h1
    have g1 := inK _ _ k1
    rw [g1] at h2
    cases h2
    cases h3
    rw [k3] at h4
    cases h4
    obtain ⟨⟨oc1, vc, e1, _, e3, e4⟩, hT⟩ := h6
    have g2 := inK _ _ k4
    rw [g2] at e1
    cases e1
    cases e3
    rw [k5] at e4
    cases e4
    exact hT
  exact lawT2_go inK gr.T.g gr.T.b gr.T.builtins gr.T.nolimit g0 gr.T.bmain sc (tbOf hrec hm own1) cK nP (tbOf hrec2 hm2 own2) cK2 nP2 hi (Nat.le_trans hl n2) hr G bt
    fun H hP hP' h => hq w H a Pt Pu ns hl hP hP' h
end G

set_option Elab.async false
set_option maxRecDepth 100000
set_option pp.maxSteps 25
namespace G
open PySem PySem.HandSPX L2 PySem.Spec PyProof.Rows LamX
set_option maxHeartbeats 8000000 in
theorem all_mk {l : PySem.W.OpenLaw} {w : World} {K : PySem.W.Frag} {h : Heap} {mg : Str → Option Value} {fa cg CT CN C cL PL cCR PCR fB fN fO fBe fT fLT fD fTo fW fCR fL fRp fBl fIg fRo fTa fI fLe fE fWt fWo fCh fti fni : Addr} (X : K.In h) (G : h.Ns mainGlobals mg) (hfa : mg "law" = some (.ref fa))
    {odB anB odN anN odO anO odBe anBe odT anT odLT anLT odD anD odTo anTo odW anW odCR anCR odL anL odRp anRp odBl anBl odIg anIg odRo anRo odTa anTa odI anI odLe anLe odE anE odWt anWt odWo anWo odCh anCh odti anti odni anni : Option Addr} {slB slN slO slBe slT slLT slD slTo slW slCR slL slRp slBl slIg slRo slTa slI slLe slE slWt slWo slCh slti slni : Array (Option Value)} {ocB kVB dcB pmB ctB ocN kVN dcN pmN ctN ocO kVO dcO pmO ctO ocBe kVBe dcBe pmBe ctBe ocT kVT dcT pmT ctT ocLT kVLT dcLT pmLT ctLT ocD kVD dcD pmD ctD ocTo kVTo dcTo pmTo ctTo ocW kVW dcW pmW ctW ocCR kVCR dcCR pmCR ctCR ocL kVL dcL pmL ctL ocRp kVRp dcRp pmRp ctRp ocBl kVBl dcBl pmBl ctBl ocIg kVIg dcIg pmIg ctIg ocRo kVRo dcRo pmRo ctRo ocTa kVTa dcTa pmTa ctTa ocI kVI dcI pmI ctI ocLe kVLe dcLe pmLe ctLe ocE kVE dcE pmE ctE ocWt kVWt dcWt pmWt ctWt ocWo kVWo dcWo pmWo ctWo ocCh kVCh dcCh pmCh ctCh octi kVti dcti pmti ctti ocni kVni dcni pmni ctni cdB cdN cdO cdBe cdT cdLT cdD cdTo cdW cdRp cdBl cdIg cdRo cdTa cdI cdLe cdE cdWt cdWo cdCh cdti cdni : Value}
    {nmT qnT nmN qnN nmF qnF : Str} {nnT nnN nnF : Addr} {bsT sbT bsN sbN bsF sbF : List Value} {snT snN snF : List Str} {abT abN abF hbF : Bool} {clT clN clF : Option Bool} {ddT ddN ddF : Option Addr} {x0T x1T x2T x3T x5T x0N x1N x2N x3N x5N x0F x1F x2F x3F x5F : Option Value} {newF : String}
    {t3 t4 t9 : Tok} {eL eCR : Value} {eddL eddCR : Option Addr} {vsL vsCR : Array Value} {eslL eslCR : Array (Option Value)}
    (aCT : PySem.W.nsIn K mainGlobals "BadTables" = some (some (.ref CT)))
    (aCN : PySem.W.nsIn K mainGlobals "BadNumber" = some (some (.ref CN)))
    (aC : PySem.W.nsIn K mainGlobals "Family" = some (some (.ref C)))
    (m3 : PySem.W.nsIn K mainGlobals "MOST_TABLES" = some (some (.int 3 t3)))
    (m4 : PySem.W.nsIn K mainGlobals "MOST_PLACES" = some (some (.int 4 t4)))
    (m9 : PySem.W.nsIn K mainGlobals "MOST_ENTRY" = some (some (.int 9 t9)))
    (xT : K.lookup CT = some (excClassObj nmT qnT CT nnT bsT [.ref cg, .type "ValueError", .type "Exception", .type "BaseException", .type "object"] true snT sbT abT clT ddT x0T x1T x2T x3T x5T "ValueError.__new__"))
    (xN : K.lookup CN = some (excClassObj nmN qnN CN nnN bsN [.ref cg, .type "ValueError", .type "Exception", .type "BaseException", .type "object"] true snN sbN abN clN ddN x0N x1N x2N x3N x5N "ValueError.__new__"))
    (xF : K.lookup C = some (excClassObj nmF qnF C nnF bsF [.type "object"] hbF snF sbF abF clF ddF x0F x1F x2F x3F x5F newF))
    (saT : PySem.W.findIn K (.ref CT) "__setattr__" = some (some (.builtin "object.__setattr__")))
    (gaT : PySem.W.findIn K (.ref CT) "__getattribute__" = some (some (.builtin "BaseException.__getattribute__")))
    (ggT : PySem.W.findIn K (.ref CT) "__getattr__" = some none)
    (exT : PySem.W.subIn K (.ref CT) (.type "BaseException") = some true)
    (tyT : PySem.W.typeIn K (.ref CT) = some (.type "type"))
    (kpT : PySem.W.keepIn K (.ref CT) = true)
    (hdT : PySem.W.hasDictIn K CT = true)
    (noT : PySem.W.findIn K (.ref CT) "place" = some none)
    (inT : PySem.W.findIn K (.ref CT) "__init__" = some (some (.ref fti)))
    (tfT : PySem.W.typeIn K (.ref fti) = some (.type "function"))
    (saN : PySem.W.findIn K (.ref CN) "__setattr__" = some (some (.builtin "object.__setattr__")))
    (gaN : PySem.W.findIn K (.ref CN) "__getattribute__" = some (some (.builtin "BaseException.__getattribute__")))
    (ggN : PySem.W.findIn K (.ref CN) "__getattr__" = some none)
    (exN : PySem.W.subIn K (.ref CN) (.type "BaseException") = some true)
    (tyN : PySem.W.typeIn K (.ref CN) = some (.type "type"))
    (kpN : PySem.W.keepIn K (.ref CN) = true)
    (hdN : PySem.W.hasDictIn K CN = true)
    (noN : PySem.W.findIn K (.ref CN) "value" = some none)
    (inN : PySem.W.findIn K (.ref CN) "__init__" = some (some (.ref fni)))
    (tfN : PySem.W.typeIn K (.ref fni) = some (.type "function"))
    (emTT : PySem.W.exmOne K (.ref CT) (.ref CT) = some true)
    (emNT : PySem.W.exmOne K (.ref CN) (.ref CT) = some false)
    (emNN : PySem.W.exmOne K (.ref CN) (.ref CN) = some true)
    (pgF : PySem.W.plainGet K C Str.empty = true)
    (hdF : PySem.W.hasDictIn K C = true)
    (poF : PySem.W.plainOver K C = true)
    (saF : PySem.W.findIn K (.ref C) "__setattr__" = some (some (.builtin "object.__setattr__")))
    (ntF : PySem.W.findIn K (.ref C) "tables" = some none)
    (nmaF : PySem.W.findIn K (.ref C) "many" = some none)
    (mkF : PySem.W.makesIn K C = true)
    (kpF : PySem.W.keepIn K (.ref C) = true)
    (nfF : PySem.W.notFirst K C (.type "tuple") = true)
    (noF : PySem.W.nsOkIn K nnF = true)
    (neqF : PySem.W.nsIn K nnF "__eq__" = some (some (.ref fE)))
    (nneF : PySem.W.nsIn K nnF "__ne__" = some none)
    (ccF : PySem.W.findIn K (.ref C) "__class__" = some (some (.builtin "object.__class__")))
    (ccg : PySem.W.specialIn K (.builtin "object.__class__") "__get__" = some (some (.builtin "getset_descriptor.__get__")))
    (cct : PySem.W.takesIn K (.builtin "object.__class__") = some true)
    (cmF : PySem.W.mroIn K C (.type "object") = some true)
    (koNoneType : PySem.W.kitOne K (.type "NoneType") (.ref C) = some false)
    (kobool : PySem.W.kitOne K (.type "bool") (.ref C) = some false)
    (koint : PySem.W.kitOne K (.type "int") (.ref C) = some false)
    (kostr : PySem.W.kitOne K (.type "str") (.ref C) = some false)
    (kolist : PySem.W.kitOne K (.type "list") (.ref C) = some false)
    (kotuple : PySem.W.kitOne K (.type "tuple") (.ref C) = some false)
    (kodict : PySem.W.kitOne K (.type "dict") (.ref C) = some false)
    (mB : PySem.W.nsIn K mainGlobals "_law_begun" = some (some (.ref fB)))
    (lB : K.lookup fB = some ⟨ocB, odB, .func (PySem.W.fnOf "_law_begun" "_law_begun" (defArgs sBegun) (defBody sBegun) (defScope sBegun) .none kVB dcB pmB anB cdB ctB), slB⟩)
    (cd_B : PySem.W.codeIn K cdB "_law_begun" = true)
    (kfB : PySem.W.keepIn K (.ref fB) = true)
    (mN : PySem.W.nsIn K mainGlobals "_law_next" = some (some (.ref fN)))
    (lN : K.lookup fN = some ⟨ocN, odN, .func (PySem.W.fnOf "_law_next" "_law_next" (defArgs sNext) (defBody sNext) (defScope sNext) .none kVN dcN pmN anN cdN ctN), slN⟩)
    (cd_N : PySem.W.codeIn K cdN "_law_next" = true)
    (kfN : PySem.W.keepIn K (.ref fN) = true)
    (mO : PySem.W.nsIn K mainGlobals "_law_odd" = some (some (.ref fO)))
    (lO : K.lookup fO = some ⟨ocO, odO, .func (PySem.W.fnOf "_law_odd" "_law_odd" (defArgs sOdd) (defBody sOdd) (defScope sOdd) .none kVO dcO pmO anO cdO ctO), slO⟩)
    (cd_O : PySem.W.codeIn K cdO "_law_odd" = true)
    (kfO : PySem.W.keepIn K (.ref fO) = true)
    (mBe : PySem.W.nsIn K mainGlobals "_law_bent" = some (some (.ref fBe)))
    (lBe : K.lookup fBe = some ⟨ocBe, odBe, .func (PySem.W.fnOf "_law_bent" "_law_bent" (defArgs sBent) (defBody sBent) (defScope sBent) .none kVBe dcBe pmBe anBe cdBe ctBe), slBe⟩)
    (cd_Be : PySem.W.codeIn K cdBe "_law_bent" = true)
    (kfBe : PySem.W.keepIn K (.ref fBe) = true)
    (mT : PySem.W.nsIn K mainGlobals "_law_tables" = some (some (.ref fT)))
    (lT : K.lookup fT = some ⟨ocT, odT, .func (PySem.W.fnOf "_law_tables" "_law_tables" (defArgs sTabs) (defBody sTabs) (defScope sTabs) .none kVT dcT pmT anT cdT ctT), slT⟩)
    (cd_T : PySem.W.codeIn K cdT "_law_tables" = true)
    (kfT : PySem.W.keepIn K (.ref fT) = true)
    (mLT : PySem.W.nsIn K mainGlobals "_law_is_table" = some (some (.ref fLT)))
    (lLT : K.lookup fLT = some ⟨ocLT, odLT, .func (PySem.W.fnOf "_law_is_table" "_law_is_table" (defArgs sLT) (defBody sLT) (defScope sLT) .none kVLT dcLT pmLT anLT cdLT ctLT), slLT⟩)
    (cd_LT : PySem.W.codeIn K cdLT "_law_is_table" = true)
    (kfLT : PySem.W.keepIn K (.ref fLT) = true)
    (mD : PySem.W.nsIn K mainGlobals "_law_due" = some (some (.ref fD)))
    (lD : K.lookup fD = some ⟨ocD, odD, .func (PySem.W.fnOf "_law_due" "_law_due" (defArgs sDue) (defBody sDue) (defScope sDue) .none kVD dcD pmD anD cdD ctD), slD⟩)
    (cd_D : PySem.W.codeIn K cdD "_law_due" = true)
    (kfD : PySem.W.keepIn K (.ref fD) = true)
    (mTo : PySem.W.nsIn K mainGlobals "_law_told" = some (some (.ref fTo)))
    (lTo : K.lookup fTo = some ⟨ocTo, odTo, .func (PySem.W.fnOf "_law_told" "_law_told" (defArgs sTo) (defBody sTo) (defScope sTo) .none kVTo dcTo pmTo anTo cdTo ctTo), slTo⟩)
    (cd_To : PySem.W.codeIn K cdTo "_law_told" = true)
    (kfTo : PySem.W.keepIn K (.ref fTo) = true)
    (mW : PySem.W.nsIn K mainGlobals "_law_is_whole" = some (some (.ref fW)))
    (lW : K.lookup fW = some ⟨ocW, odW, .func (PySem.W.fnOf "_law_is_whole" "_law_is_whole" (defArgs sWh) (defBody sWh) (defScope sWh) .none kVW dcW pmW anW cdW ctW), slW⟩)
    (cd_W : PySem.W.codeIn K cdW "_law_is_whole" = true)
    (kfW : PySem.W.keepIn K (.ref fW) = true)
    (mCR : PySem.W.nsIn K mainGlobals "_law_changed_right" = some (some (.ref fCR)))
    (lCR : K.lookup fCR = some ⟨ocCR, odCR, .func (PySem.W.fnOf "_law_changed_right" "_law_changed_right" (defArgs sCR) (defBody sCR) (defScope sCR) .none kVCR dcCR pmCR anCR (.ref cCR) ctCR), slCR⟩)
    (cd_CR : PySem.W.codeIn K (.ref cCR) "_law_changed_right" = true)
    (kfCR : PySem.W.keepIn K (.ref fCR) = true)
    (mL : PySem.W.nsIn K mainGlobals "law" = some (some (.ref fL)))
    (lL : K.lookup fL = some ⟨ocL, odL, .func (PySem.W.fnOf "law" "law" (defArgs sLaw) (defBody sLaw) (defScope sLaw) .none kVL dcL pmL anL (.ref cL) ctL), slL⟩)
    (cd_L : PySem.W.codeIn K (.ref cL) "law" = true)
    (kfL : PySem.W.keepIn K (.ref fL) = true)
    (mRp : PySem.W.nsIn K mainGlobals "replaced" = some (some (.ref fRp)))
    (lRp : K.lookup fRp = some ⟨ocRp, odRp, .func (PySem.W.fnOf "replaced" "replaced" (defArgs sRep) (defBody sRep) (defScope sRep) .none kVRp dcRp pmRp anRp cdRp ctRp), slRp⟩)
    (cd_Rp : PySem.W.codeIn K cdRp "replaced" = true)
    (kfRp : PySem.W.keepIn K (.ref fRp) = true)
    (mIg : PySem.W.nsIn K mainGlobals "is_integer" = some (some (.ref fIg)))
    (lIg : K.lookup fIg = some ⟨ocIg, odIg, .func (PySem.W.fnOf "is_integer" "is_integer" (defArgs sInteger) (defBody sInteger) (defScope sInteger) .none kVIg dcIg pmIg anIg cdIg ctIg), slIg⟩)
    (cd_Ig : PySem.W.codeIn K cdIg "is_integer" = true)
    (kfIg : PySem.W.keepIn K (.ref fIg) = true)
    (mBl : PySem.W.nsIn K mainGlobals "is_below" = some (some (.ref fBl)))
    (lBl : K.lookup fBl = some ⟨ocBl, odBl, .func (PySem.W.fnOf "is_below" "is_below" (defArgs sBelow) (defBody sBelow) (defScope sBelow) .none kVBl dcBl pmBl anBl cdBl ctBl), slBl⟩)
    (cd_Bl : PySem.W.codeIn K cdBl "is_below" = true)
    (kfBl : PySem.W.keepIn K (.ref fBl) = true)
    (mRo : PySem.W.nsIn K mainGlobals "is_row" = some (some (.ref fRo)))
    (lRo : K.lookup fRo = some ⟨ocRo, odRo, .func (PySem.W.fnOf "is_row" "is_row" (defArgs sIsRow) (defBody sIsRow) (defScope sIsRow) .none kVRo dcRo pmRo anRo cdRo ctRo), slRo⟩)
    (cd_Ro : PySem.W.codeIn K cdRo "is_row" = true)
    (kfRo : PySem.W.keepIn K (.ref fRo) = true)
    (mTa : PySem.W.nsIn K mainGlobals "is_table" = some (some (.ref fTa)))
    (lTa : K.lookup fTa = some ⟨ocTa, odTa, .func (PySem.W.fnOf "is_table" "is_table" (defArgs sIsTab) (defBody sIsTab) (defScope sIsTab) .none kVTa dcTa pmTa anTa cdTa ctTa), slTa⟩)
    (cd_Ta : PySem.W.codeIn K cdTa "is_table" = true)
    (kfTa : PySem.W.keepIn K (.ref fTa) = true)
    (fiI : PySem.W.findIn K (.ref C) "__init__" = some (some (.ref fI)))
    (lI : K.lookup fI = some ⟨ocI, odI, .func (PySem.W.fnOf "__init__" "Family.__init__" (defArgs sInit) (defBody sInit) (defScope sInit) .none kVI dcI pmI anI cdI ctI), slI⟩)
    (cd_I : PySem.W.codeIn K cdI "Family.__init__" = true)
    (kfI : PySem.W.keepIn K (.ref fI) = true)
    (fnI : PySem.W.isFn K (.ref fI) = true)
    (fiLe : PySem.W.findIn K (.ref C) "__len__" = some (some (.ref fLe)))
    (lLe : K.lookup fLe = some ⟨ocLe, odLe, .func (PySem.W.fnOf "__len__" "Family.__len__" (defArgs sLen) (defBody sLen) (defScope sLen) .none kVLe dcLe pmLe anLe cdLe ctLe), slLe⟩)
    (cd_Le : PySem.W.codeIn K cdLe "Family.__len__" = true)
    (kfLe : PySem.W.keepIn K (.ref fLe) = true)
    (fnLe : PySem.W.isFn K (.ref fLe) = true)
    (fiE : PySem.W.findIn K (.ref C) "__eq__" = some (some (.ref fE)))
    (lE : K.lookup fE = some ⟨ocE, odE, .func (PySem.W.fnOf "__eq__" "Family.__eq__" (defArgs sEq) (defBody sEq) (defScope sEq) .none kVE dcE pmE anE cdE ctE), slE⟩)
    (cd_E : PySem.W.codeIn K cdE "Family.__eq__" = true)
    (kfE : PySem.W.keepIn K (.ref fE) = true)
    (fnE : PySem.W.isFn K (.ref fE) = true)
    (fiWt : PySem.W.findIn K (.ref C) "with_table" = some (some (.ref fWt)))
    (lWt : K.lookup fWt = some ⟨ocWt, odWt, .func (PySem.W.fnOf "with_table" "Family.with_table" (defArgs sWith) (defBody sWith) (defScope sWith) .none kVWt dcWt pmWt anWt cdWt ctWt), slWt⟩)
    (cd_Wt : PySem.W.codeIn K cdWt "Family.with_table" = true)
    (kfWt : PySem.W.keepIn K (.ref fWt) = true)
    (fnWt : PySem.W.isFn K (.ref fWt) = true)
    (fiWo : PySem.W.findIn K (.ref C) "without_table" = some (some (.ref fWo)))
    (lWo : K.lookup fWo = some ⟨ocWo, odWo, .func (PySem.W.fnOf "without_table" "Family.without_table" (defArgs sWo) (defBody sWo) (defScope sWo) .none kVWo dcWo pmWo anWo cdWo ctWo), slWo⟩)
    (cd_Wo : PySem.W.codeIn K cdWo "Family.without_table" = true)
    (kfWo : PySem.W.keepIn K (.ref fWo) = true)
    (fnWo : PySem.W.isFn K (.ref fWo) = true)
    (fiCh : PySem.W.findIn K (.ref C) "changed" = some (some (.ref fCh)))
    (lCh : K.lookup fCh = some ⟨ocCh, odCh, .func (PySem.W.fnOf "changed" "Family.changed" (defArgs sChg) (defBody sChg) (defScope sChg) .none kVCh dcCh pmCh anCh cdCh ctCh), slCh⟩)
    (cd_Ch : PySem.W.codeIn K cdCh "Family.changed" = true)
    (kfCh : PySem.W.keepIn K (.ref fCh) = true)
    (fnCh : PySem.W.isFn K (.ref fCh) = true)
    (lti : K.lookup fti = some ⟨octi, odti, .func (PySem.W.fnOf "__init__" "BadTables.__init__" (defArgs sTi) (defBody sTi) (defScope sTi) .none kVti dcti pmti anti cdti ctti), slti⟩)
    (cd_ti : PySem.W.codeIn K cdti "BadTables.__init__" = true)
    (kfti : PySem.W.keepIn K (.ref fti) = true)
    (lni : K.lookup fni = some ⟨ocni, odni, .func (PySem.W.fnOf "__init__" "BadNumber.__init__" (defArgs sNi) (defBody sNi) (defScope sNi) .none kVni dcni pmni anni cdni ctni), slni⟩)
    (cd_ni : PySem.W.codeIn K cdni "BadNumber.__init__" = true)
    (kfni : PySem.W.keepIn K (.ref fni) = true)
    (kL : K.lookup cL = some ⟨eL, eddL, .fields vsL, eslL⟩)
    (vL : vsL[11]? = some (.ref PL))
    (chL : PySem.W.codeHdIn K cL PL = true)
    (npL : K.lookup PL = none)
    (kCR : K.lookup cCR = some ⟨eCR, eddCR, .fields vsCR, eslCR⟩)
    (vCR : vsCR[11]? = some (.ref PCR))
    (chCR : PySem.W.codeHdIn K cCR PCR = true)
    (npCR : K.lookup PCR = none)
    (neP : PL ≠ PCR)
    (z_isinstance : PySem.W.nsIn K mainGlobals "isinstance" = some none)
    (z_int : PySem.W.nsIn K mainGlobals "int" = some none)
    (z_bool : PySem.W.nsIn K mainGlobals "bool" = some none)
    (z_tuple : PySem.W.nsIn K mainGlobals "tuple" = some none)
    (z_list : PySem.W.nsIn K mainGlobals "list" = some none)
    (z_len : PySem.W.nsIn K mainGlobals "len" = some none)
    (z_all : PySem.W.nsIn K mainGlobals "all" = some none)
    (z_sum : PySem.W.nsIn K mainGlobals "sum" = some none)
    (z_range : PySem.W.nsIn K mainGlobals "range" = some none)
    (z_enumerate : PySem.W.nsIn K mainGlobals "enumerate" = some none)
    (z_repr : PySem.W.nsIn K mainGlobals "repr" = some none)
    (z_min : PySem.W.nsIn K mainGlobals "min" = some none)
    (z_str : PySem.W.nsIn K mainGlobals "str" = some none)
    : ∃ (fd : FuncData) (fb c Pt c2 Pu : Addr), (∀ (s : Shared) (v : Value), BindsTo s fd ⟨[v], []⟩ [("script", v)]) ∧ mg "_law_changed_right" = some (.ref fb) ∧ OwnT K fa c Pt ∧ PySem.W.codeHdIn K c Pt = true ∧ K.lookup Pt = none ∧
        OwnT K fb c2 Pu ∧ PySem.W.codeHdIn K c2 Pu = true ∧ K.lookup Pu = none ∧
        ∀ base : Heap, K.In base → base.Ns mainGlobals mg → TabB base mg c Pt → TabB base mg c2 Pu → FnG l.prog w K mg base CX0 11 fa fd ["script"] (spLaw K [(Pt, lq), (Pu, qCR)]) := by
  have e := hfa.symm.trans (PySem.W.mg_of X G mL)
  cases e
  refine ⟨PySem.W.fnOf "law" "law" (defArgs sLaw) (defBody sLaw) (defScope sLaw) .none kVL dcL pmL anL (.ref cL) ctL, fCR, cL, PL, cCR, PCR, fun s v => .of_eq rfl, PySem.W.mg_of X G mCR, ⟨_, _, _, _, _, _, _, _, lL, rfl, kL, vL⟩, chL, npL, ⟨_, _, _, _, _, _, _, _, lCR, rfl, kCR, vCR⟩, chCR, npCR, fun base _ _ TB1 TB2 => ?_⟩
  have FB := fun_mk (st := sBegun) lB cd_B kfB
  have bB := FB.binds (ps := ["script"]) fun _ _ _ _ _ _ us hl => match us, hl with | [_], _ => rfl
  have FN := fun_mk (st := sNext) lN cd_N kfN
  have bN := FN.binds (ps := ["m", "many"]) fun _ _ _ _ _ _ us hl => match us, hl with | [_, _], _ => rfl
  have FO := fun_mk (st := sOdd) lO cd_O kfO
  have bO := FO.binds (ps := ["m"]) fun _ _ _ _ _ _ us hl => match us, hl with | [_], _ => rfl
  have FBe := fun_mk (st := sBent) lBe cd_Be kfBe
  have bBe := FBe.binds (ps := ["m", "thing"]) fun _ _ _ _ _ _ us hl => match us, hl with | [_, _], _ => rfl
  have FT := fun_mk (st := sTabs) lT cd_T kfT
  have bT := FT.binds (ps := ["m", "spread", "many", "sparse"]) fun _ _ _ _ _ _ us hl => match us, hl with | [_, _, _, _], _ => rfl
  have FLT := fun_mk (st := sLT) lLT cd_LT kfLT
  have bLT := FLT.binds (ps := ["thing", "n"]) fun _ _ _ _ _ _ us hl => match us, hl with | [_, _], _ => rfl
  have FD := fun_mk (st := sDue) lD cd_D kfD
  have bD := FD.binds (ps := ["tables"]) fun _ _ _ _ _ _ us hl => match us, hl with | [_], _ => rfl
  have FTo := fun_mk (st := sTo) lTo cd_To kfTo
  have bTo := FTo.binds (ps := ["call"]) fun _ _ _ _ _ _ us hl => match us, hl with | [_], _ => rfl
  have FW := fun_mk (st := sWh) lW cd_W kfW
  have bW := FW.binds (ps := ["thing", "low", "high"]) fun _ _ _ _ _ _ us hl => match us, hl with | [_, _, _], _ => rfl
  have FCR := fun_mk (st := sCR) lCR cd_CR kfCR
  have bCR := FCR.binds (ps := ["m", "tables", "one"]) fun _ _ _ _ _ _ us hl => match us, hl with | [_, _, _], _ => rfl
  have FRp := fun_mk (st := sRep) lRp cd_Rp kfRp
  have bRp := FRp.binds (ps := ["items", "at", "item"]) fun _ _ _ _ _ _ us hl => match us, hl with | [_, _, _], _ => rfl
  have FIg := fun_mk (st := sInteger) lIg cd_Ig kfIg
  have bIg := FIg.binds (ps := ["thing"]) fun _ _ _ _ _ _ us hl => match us, hl with | [_], _ => rfl
  have FBl := fun_mk (st := sBelow) lBl cd_Bl kfBl
  have bBl := FBl.binds (ps := ["thing", "limit"]) fun _ _ _ _ _ _ us hl => match us, hl with | [_, _], _ => rfl
  have FRo := fun_mk (st := sIsRow) lRo cd_Ro kfRo
  have bRo := FRo.binds (ps := ["thing", "many"]) fun _ _ _ _ _ _ us hl => match us, hl with | [_, _], _ => rfl
  have FTa := fun_mk (st := sIsTab) lTa cd_Ta kfTa
  have bTa := FTa.binds (ps := ["thing"]) fun _ _ _ _ _ _ us hl => match us, hl with | [_], _ => rfl
  have FI := fun_mk (st := sInit) lI cd_I kfI
  have bI := FI.binds (ps := ["self", "tables"]) fun _ _ _ _ _ _ us hl => match us, hl with | [_, _], _ => rfl
  have FLe := fun_mk (st := sLen) lLe cd_Le kfLe
  have bLe := FLe.binds (ps := ["self"]) fun _ _ _ _ _ _ us hl => match us, hl with | [_], _ => rfl
  have FE := fun_mk (st := sEq) lE cd_E kfE
  have bE := FE.binds (ps := ["self", "other"]) fun _ _ _ _ _ _ us hl => match us, hl with | [_, _], _ => rfl
  have FWt := fun_mk (st := sWith) lWt cd_Wt kfWt
  have bWt := FWt.binds (ps := ["self", "table"]) fun _ _ _ _ _ _ us hl => match us, hl with | [_, _], _ => rfl
  have FWo := fun_mk (st := sWo) lWo cd_Wo kfWo
  have bWo := FWo.binds (ps := ["self", "number"]) fun _ _ _ _ _ _ us hl => match us, hl with | [_, _], _ => rfl
  have FCh := fun_mk (st := sChg) lCh cd_Ch kfCh
  have bCh := FCh.binds (ps := ["self", "number", "row", "place", "entry"]) fun _ _ _ _ _ _ us hl => match us, hl with | [_, _, _, _, _], _ => rfl
  have Fti := fun_mk (st := sTi) lti cd_ti kfti
  have bti := Fti.binds (ps := ["self", "place"]) fun _ _ _ _ _ _ us hl => match us, hl with | [_, _], _ => rfl
  have Fni := fun_mk (st := sNi) lni cd_ni kfni
  have bni := Fni.binds (ps := ["self", "value"]) fun _ _ _ _ _ _ us hl => match us, hl with | [_, _], _ => rfl
  have U : TxU mg := ⟨(PySem.W.mg_none_of X G z_isinstance), (PySem.W.mg_none_of X G z_int), (PySem.W.mg_none_of X G z_bool), (PySem.W.mg_none_of X G z_tuple), (PySem.W.mg_none_of X G z_list), (PySem.W.mg_none_of X G z_len), (PySem.W.mg_none_of X G z_all), (PySem.W.mg_none_of X G z_sum), (PySem.W.mg_none_of X G z_range), (PySem.W.mg_none_of X G z_enumerate), (PySem.W.mg_none_of X G z_repr), (PySem.W.mg_none_of X G z_min)⟩
  have W1 : Fam1 K C := ⟨⟨pgF, hdF, poF, saF⟩, ntF, nmaF⟩
  have gC := (PySem.W.mg_of X G aC)
  have oxT : OexC K CT := ⟨⟨_, _, _, _, _, _, _, _, _, _, _, _, _, _, _, xT, rfl⟩, saT, exT, tyT, kpT⟩
  have oxN : OexC K CN := ⟨⟨_, _, _, _, _, _, _, _, _, _, _, _, _, _, _, xN, rfl⟩, saN, exN, tyN, kpN⟩
  have GN : FnOk l.prog w K mg base CX0 1 fN _ ["m", "many"] spNext := ok_next FN ⟨(PySem.W.mg_none_of X G z_int), (PySem.W.mg_none_of X G z_len)⟩
  have GB : FnOk l.prog w K mg base CX0 1 fB _ ["script"] (spBegun K) := ok_begun FB ⟨(PySem.W.mg_none_of X G z_list)⟩
  have GO : FnOk l.prog w K mg base CX0 2 fO _ ["m"] (spOdd2 K) := ok_odd2 FO ⟨(PySem.W.mg_of X G mN), kfN⟩ GN bN
  have GBe := fun n => ok_bent2 (P := l.prog) (w := w) (base := base) FBe (fN := fN) (fO := fO) ⟨(PySem.W.mg_of X G mN), kfN, (PySem.W.mg_of X G mO), kfO, (PySem.W.mg_of X G mBe), kfBe, (PySem.W.mg_none_of X G z_isinstance), (PySem.W.mg_none_of X G z_str), (PySem.W.mg_none_of X G z_int), (PySem.W.mg_none_of X G z_bool), (PySem.W.mg_none_of X G z_tuple), (PySem.W.mg_none_of X G z_len), (PySem.W.mg_none_of X G z_list)⟩ GN bN GO bO bBe n
  have GT : FnOk l.prog w K mg base CX0 2 fT _ ["m", "spread", "many", "sparse"] (spTabs K) := ok_tabs FT ⟨(PySem.W.mg_of X G mN), kfN, (PySem.W.mg_none_of X G z_range), (PySem.W.mg_none_of X G z_tuple)⟩ GN bN
  have GIg : FnOk l.prog w K mg base CX0 1 fIg _ ["thing"] (spInteger K) := ok_integer FIg U
  have GBl : FnOk l.prog w K mg base CX0 2 fBl _ ["thing", "limit"] (spBelow K) := ok_below FBl (PySem.W.mg_of X G mIg) kfIg GIg bIg
  have GRo : FnOk l.prog w K mg base CX0 3 fRo _ ["thing", "many"] (spIsRow K) := ok_isRow FRo U (PySem.W.mg_of X G m9) ⟨(PySem.W.mg_of X G mBl), kfBl⟩ GBl bBl
  have GTa : FnOk l.prog w K mg base CX0 4 fTa _ ["thing"] (spIsTab K) := ok_isTab FTa U (PySem.W.mg_of X G m4) ⟨(PySem.W.mg_of X G mRo), kfRo⟩ GRo bRo
  have GW : FnOk l.prog w K mg base CX0 1 fW _ ["thing", "low", "high"] (spWh K) := ok_wh FW U
  have GLT : FnOk l.prog w K mg base CX0 2 fLT _ ["thing", "n"] (spLT K) := ok_lt FLT U ⟨(PySem.W.mg_of X G mW), kfW⟩ GW bW
  have GD : FnOk l.prog w K mg base CX0 3 fD _ ["tables"] (spDue K) := ok_due FD U ⟨(PySem.W.mg_of X G mLT), kfLT⟩ GLT bLT
  have BT : ExT l.prog w K mg base CT "BadTables" "place" := ⟨⟨fti, _, ok_ti Fti oxT noT, inT, tfT, bti⟩, oxT, (PySem.W.mg_of X G aCT)⟩
  have BN : ExT l.prog w K mg base CN "BadNumber" "value" := ⟨⟨fni, _, ok_ni Fni oxN noN, inN, tfN, bni⟩, oxN, (PySem.W.mg_of X G aCN)⟩
  have GI : FnOk l.prog w K mg base (L2.CX l.prog w) 5 fI _ ["self", "tables"] (spInit K C CT) := ok_init FI U (PySem.W.mg_of X G m3) W1 BT ⟨(PySem.W.mg_of X G mTa), kfTa⟩ GTa bTa
  have LF : LenF l.prog w K mg base C fLe := lenF_of (ok_len FLe U W1) bLe fiLe fnLe
  have isiF : IsiF K mg C := ⟨gC, ⟨ccF, ccg, cct, cmF⟩, fun d => match d with | .none => koNoneType | .bool _ => kobool | .int _ => koint | .str _ => kostr | .list _ => kolist | .tuple _ => kotuple | .dict _ => kodict⟩
  have GE : FnOk l.prog w K mg base CX0 1 fE _ ["self", "other"] (spEqF K C) := ok_eq FE U W1 isiF
  have EF : EqF l.prog w K mg base C fE := ⟨fiE, fnE, (GE.raw bE .nil).imp fun vs H Q E h => by rw [List.append_nil]; exact h, nfF, ⟨_, _, nnF, _, _, _, _, _, _, _, _, _, _, _, _, _, xF, noF, neqF, nneF⟩⟩
  have MK : Mk K C fI := ⟨mkF, fiI, fnI, kpF⟩
  have GWt : FnOk l.prog w K mg base (L2.CX l.prog w) 7 fWt _ ["self", "table"] (spWith K C CT) := ok_with FWt U (PySem.W.mg_of X G m3) W1 BT gC ⟨(PySem.W.mg_of X G mTa), kfTa⟩ GTa bTa MK GI bI
  have GWo : FnOk l.prog w K mg base (L2.CX l.prog w) 7 fWo _ ["self", "number"] (spWo K C CN) := ok_wo FWo U W1 BN gC ⟨(PySem.W.mg_of X G mBl), kfBl⟩ GBl bBl MK GI bI
  have GRp : FnOk l.prog w K mg base CX0 1 fRp _ ["items", "at", "item"] (spRep K) := ok_rep FRp
  have GCh : FnOk l.prog w K mg base (L2.CX l.prog w) 7 fCh _ ["self", "number", "row", "place", "entry"] (spChg K C CN) := ok_chg FCh U (PySem.W.mg_of X G m9) W1 BN gC ⟨(PySem.W.mg_of X G mBl), kfBl⟩ GBl bBl ⟨(PySem.W.mg_of X G mRp), kfRp⟩ GRp bRp MK GI bI
  have ZZ : XTwo K mg CT CN := ⟨(PySem.W.mg_of X G aCT), (PySem.W.mg_of X G aCN), ⟨gaT, ggT, exT, hdT⟩, ⟨gaN, ggN, exN, hdN⟩, noT, noN, emTT, emNT, emNN⟩
  have hu1 : ∀ p ∈ ([(PL, lq), (PCR, qCR)] : List (Addr × Str)), p.1 = PL → p.2 = lq := fun p hp e => by
    rcases List.mem_cons.mp hp with z | z
    · rw [z]
    · rw [List.mem_singleton.mp z] at e
      exact absurd e.symm neP
  have hu2 : ∀ p ∈ ([(PL, lq), (PCR, qCR)] : List (Addr × Str)), p.1 = PCR → p.2 = qCR := fun p hp e => by
    rcases List.mem_cons.mp hp with z | z
    · rw [z] at e
      exact absurd e neP
    · rw [List.mem_singleton.mp z]
  have GCR := ok_cr (P := l.prog) (w := w) (base := base) lCR cd_CR U W1 ZZ TB2 (TT := [(PL, lq), (PCR, qCR)]) (by simp) hu2 ⟨(PySem.W.mg_of X G mN), kfN⟩ GN bN ⟨(PySem.W.mg_of X G mW), kfW⟩ GW bW ⟨fiCh, fnCh, kfCh⟩ GCh bCh lTo cd_To bTo ⟨(PySem.W.mg_of X G mTo), kfTo⟩
  exact ok_law (P := l.prog) (w := w) (base := base) lL cd_L ⟨⟨(PySem.W.mg_of X G mB), kfB⟩, ⟨(PySem.W.mg_of X G mN), kfN⟩, ⟨(PySem.W.mg_of X G mO), kfO⟩, ⟨(PySem.W.mg_of X G mBe), kfBe⟩, ⟨(PySem.W.mg_of X G mT), kfT⟩, ⟨(PySem.W.mg_of X G mLT), kfLT⟩, ⟨(PySem.W.mg_of X G mD), kfD⟩, ⟨(PySem.W.mg_of X G mTo), kfTo⟩, ⟨(PySem.W.mg_of X G mW), kfW⟩, ⟨(PySem.W.mg_of X G mCR), kfCR⟩, gC⟩ U W1 ZZ TB1 (TT := [(PL, lq), (PCR, qCR)]) (by simp) hu1 MK GI bI EF LF GB bB GN bN GO bO (GBe 2) (GBe 3) bBe GT bT GLT bLT GD bD GW bW GCR bCR ⟨fiWt, fnWt, kfWt⟩ GWt bWt ⟨fiWo, fnWo, kfWo⟩ GWo bWo lTo cd_To bTo
end G
open PySem PySem.W PyProof.Rows
set_option maxRecDepth 100000 in
set_option maxHeartbeats 8000000 in
theorem PySem.Challenge.cw_growthkinds_k01_whole_families_made_holds : PySem.Challenge.rw_growthkinds_k01_whole_families_made.Holds := by
  w_on; o_law; k_head; (case hw => w_witness2)
  k_fill
  refine G.walkGT2 (l := PySem.Challenge.rw_growthkinds_k01_whole_families_made) (n := 63) (k := 11) (x := "script") (x2 := "_law_changed_right") (sp := fun w Pt Pu => G.spLaw _ [(Pt, G.lq), (Pu, G.qCR)]) rfl (by decide) rfl ⟨rfl, by decide, by decide⟩ (by decide +kernel) (by decide +kernel) (fun w h Y => PySem.W.km_in_of Y) ?F (fun w H a Pt Pu ns hl h1 h2 hS => ⟨a, ns, rfl, hS, hl, fun p hp => by
    rcases List.mem_cons.mp hp with z | z
    · rw [z]; exact h1
    · rw [List.mem_singleton.mp z]; exact h2, fun _ => rfl⟩)
  case F =>
    intro w mg fa h KX hG hmg
    refine' G.all_mk KX hG hmg ?aCT ?aCN ?aC ?m3 ?m4 ?m9 ?xT ?xN ?xF ?saT ?gaT ?ggT ?exT ?tyT ?kpT ?hdT ?noT ?inT ?tfT ?saN ?gaN ?ggN ?exN ?tyN ?kpN ?hdN ?noN ?inN ?tfN ?emTT ?emNT ?emNN ?pgF ?hdF ?poF ?saF ?ntF ?nmaF ?mkF ?kpF ?nfF ?noF ?neqF ?nneF ?ccF ?ccg ?cct ?cmF ?koNoneType ?kobool ?koint ?kostr ?kolist ?kotuple ?kodict ?mB ?lB ?cd_B ?kfB ?mN ?lN ?cd_N ?kfN ?mO ?lO ?cd_O ?kfO ?mBe ?lBe ?cd_Be ?kfBe ?mT ?lT ?cd_T ?kfT ?mLT ?lLT ?cd_LT ?kfLT ?mD ?lD ?cd_D ?kfD ?mTo ?lTo ?cd_To ?kfTo ?mW ?lW ?cd_W ?kfW ?mCR ?lCR ?cd_CR ?kfCR ?mL ?lL ?cd_L ?kfL ?mRp ?lRp ?cd_Rp ?kfRp ?mIg ?lIg ?cd_Ig ?kfIg ?mBl ?lBl ?cd_Bl ?kfBl ?mRo ?lRo ?cd_Ro ?kfRo ?mTa ?lTa ?cd_Ta ?kfTa ?fiI ?lI ?cd_I ?kfI ?fnI ?fiLe ?lLe ?cd_Le ?kfLe ?fnLe ?fiE ?lE ?cd_E ?kfE ?fnE ?fiWt ?lWt ?cd_Wt ?kfWt ?fnWt ?fiWo ?lWo ?cd_Wo ?kfWo ?fnWo ?fiCh ?lCh ?cd_Ch ?kfCh ?fnCh ?lti ?cd_ti ?kfti ?lni ?cd_ni ?kfni ?kL ?vL ?chL ?npL ?kCR ?vCR ?chCR ?npCR ?neP ?z_isinstance ?z_int ?z_bool ?z_tuple ?z_list ?z_len ?z_all ?z_sum ?z_range ?z_enumerate ?z_repr ?z_min ?z_str
    (case aCT => k_is)
    (case aCN => k_is)
    (case aC => k_is)
    (case m3 => k_is)
    (case m4 => k_is)
    (case m9 => k_is)
    (case xT => k_is)
    (case xN => k_is)
    (case xF => k_is)
    (case saT => k_is)
    (case gaT => k_is)
    (case ggT => k_is)
    (case exT => k_is)
    (case tyT => k_is)
    (case kpT => k_is)
    (case hdT => k_is)
    (case noT => k_is)
    (case inT => k_is)
    (case tfT => k_is)
    (case saN => k_is)
    (case gaN => k_is)
    (case ggN => k_is)
    (case exN => k_is)
    (case tyN => k_is)
    (case kpN => k_is)
    (case hdN => k_is)
    (case noN => k_is)
    (case inN => k_is)
    (case tfN => k_is)
    (case emTT => kernel_rfl)
    (case emNT => kernel_rfl)
    (case emNN => kernel_rfl)
    (case pgF => k_is)
    (case hdF => k_is)
    (case poF => k_is)
    (case saF => k_is)
    (case ntF => k_is)
    (case nmaF => k_is)
    (case mkF => k_is)
    (case kpF => k_is)
    (case nfF => k_is)
    (case noF => kernel_rfl)
    (case neqF => k_is)
    (case nneF => k_is)
    (case ccF => k_is)
    (case ccg => k_is)
    (case cct => k_is)
    (case cmF => k_is)
    (case koNoneType => kernel_rfl)
    (case kobool => kernel_rfl)
    (case koint => kernel_rfl)
    (case kostr => kernel_rfl)
    (case kolist => kernel_rfl)
    (case kotuple => kernel_rfl)
    (case kodict => kernel_rfl)
    (case mB => k_is)
    (case lB => k_is)
    (case cd_B => k_is)
    (case kfB => k_is)
    (case mN => k_is)
    (case lN => k_is)
    (case cd_N => k_is)
    (case kfN => k_is)
    (case mO => k_is)
    (case lO => k_is)
    (case cd_O => k_is)
    (case kfO => k_is)
    (case mBe => k_is)
    (case lBe => k_is)
    (case cd_Be => k_is)
    (case kfBe => k_is)
    (case mT => k_is)
    (case lT => k_is)
    (case cd_T => k_is)
    (case kfT => k_is)
    (case mLT => k_is)
    (case lLT => k_is)
    (case cd_LT => k_is)
    (case kfLT => k_is)
    (case mD => k_is)
    (case lD => k_is)
    (case cd_D => k_is)
    (case kfD => k_is)
    (case mTo => k_is)
    (case lTo => k_is)
    (case cd_To => k_is)
    (case kfTo => k_is)
    (case mW => k_is)
    (case lW => k_is)
    (case cd_W => k_is)
    (case kfW => k_is)
    (case mCR => k_is)
    (case lCR => k_is)
    (case cd_CR => k_is)
    (case kfCR => k_is)
    (case mL => k_is)
    (case lL => k_is)
    (case cd_L => k_is)
    (case kfL => k_is)
    (case mRp => k_is)
    (case lRp => k_is)
    (case cd_Rp => k_is)
    (case kfRp => k_is)
    (case mIg => k_is)
    (case mBl => k_is)
    (case lIg => k_is)
    (case lBl => k_is)
    (case cd_Ig => k_is)
    (case cd_Bl => k_is)
    (case kfIg => k_is)
    (case kfBl => k_is)
    (case mRo => k_is)
    (case lRo => k_is)
    (case cd_Ro => k_is)
    (case kfRo => k_is)
    (case mTa => k_is)
    (case lTa => k_is)
    (case cd_Ta => k_is)
    (case kfTa => k_is)
    (case fiI => k_is)
    (case lI => k_is)
    (case cd_I => k_is)
    (case kfI => k_is)
    (case fnI => k_is)
    (case fiLe => k_is)
    (case lLe => k_is)
    (case cd_Le => k_is)
    (case kfLe => k_is)
    (case fnLe => k_is)
    (case fiE => k_is)
    (case lE => k_is)
    (case cd_E => k_is)
    (case kfE => k_is)
    (case fnE => k_is)
    (case fiWt => k_is)
    (case lWt => k_is)
    (case cd_Wt => k_is)
    (case kfWt => k_is)
    (case fnWt => k_is)
    (case fiWo => k_is)
    (case lWo => k_is)
    (case cd_Wo => k_is)
    (case kfWo => k_is)
    (case fnWo => k_is)
    (case fiCh => k_is)
    (case lCh => k_is)
    (case cd_Ch => k_is)
    (case kfCh => k_is)
    (case fnCh => k_is)
    (case lti => k_is)
    (case cd_ti => k_is)
    (case kfti => k_is)
    (case lni => k_is)
    (case cd_ni => k_is)
    (case kfni => k_is)
    (case kL => k_is)
    (case vL => rfl)
    (case chL => kernel_rfl)
    (case npL => kernel_rfl)
    (case kCR => k_is)
    (case vCR => rfl)
    (case chCR => kernel_rfl)
    (case npCR => kernel_rfl)
    (case neP => decide)
    (case z_isinstance => k_is)
    (case z_int => k_is)
    (case z_bool => k_is)
    (case z_tuple => k_is)
    (case z_list => k_is)
    (case z_len => k_is)
    (case z_all => k_is)
    (case z_sum => k_is)
    (case z_range => k_is)
    (case z_enumerate => k_is)
    (case z_repr => k_is)
    (case z_min => k_is)
    (case z_str => k_is)

