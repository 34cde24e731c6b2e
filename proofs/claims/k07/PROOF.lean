import PyProof.Rows.All
import Wide.All
import OpenK.AllK
import Wide.FinOn
import PyProof.Draws
import PyProof.Rows.SortShellAny
import HandS.Codes
import HandS.Conv
import HandS.DictComp
import HandS.ExcValue
import HandS.Flow
import HandS.ForMost
import HandS.GenList
import HandS.GenYield
import HandS.IsInst
import HandS.Replace
import HandS.Star
import HandS.Style
import HandS.TupAny
import HandS.TupMul
import HandS.Wide
import HandS.WideBits
import HandS.Zip
import PySem.Challenge.RW_fewtests_k07_numbers_and_sizes
set_option Elab.async false
set_option linter.all false
set_option maxRecDepth 100000
set_option maxHeartbeats 2000000
set_option pp.maxSteps 1500
set_option pp.deepTerms false
namespace Toy
open PySem L2
open C8 (Cal cal0 pe_c pss_cut fnScope fnBody fnScope_by)
/-! ### the text by places -/
def top (i : Nat) : Stmt := PySem.Challenge.pw_fewtests_k07_numbers_and_sizes.main.body.getD i (.Pass ⟨0, 0, 0, 0⟩)
abbrev st_number_of_ : Stmt := top 3
abbrev st_size_of_ : Stmt := top 4
abbrev st_text_of_ : Stmt := top 5
abbrev st_power_of_ : Stmt := top 6
abbrev st_law_pen : Stmt := top 8
abbrev st_law_fresh : Stmt := top 9
abbrev st_law_draw : Stmt := top 10
abbrev st_law_one_of : Stmt := top 11
abbrev st_law_numbered : Stmt := top 12
abbrev st_law_letters : Stmt := top 13
abbrev st_law_figures : Stmt := top 14
abbrev st_law_due_text : Stmt := top 15
abbrev st_law_texts_right : Stmt := top 16
abbrev st_law_hand_right : Stmt := top 17
abbrev st_law_ : Stmt := top 18

theorem iteT' {b : Bool} {A B : Prop} (e : b = true) (h : A) : if b = true then A else B := by
  rw [if_pos e]
  exact h
theorem iteF' {b : Bool} {A B : Prop} (e : b = false) (h : B) : if b = true then A else B := by
  rw [e]
  exact iteF h
/-! ### the pen -/
/-- the pen at p: cells at c (some ints), a place, what is left -/
def Pen (H : Hp) (p c : Addr) : Prop := ∃ (ns : List Int) (i j : Int), H p = some (.lst [.ref c, .int i, .int j]) ∧ H c = some (.lst (ns.map V.int))
theorem pen_ne {H : Hp} {p c : Addr} {ns : List Int} {i j : Int} (h : H p = some (.lst [.ref c, .int i, .int j])) (h2 : H c = some (.lst (ns.map V.int))) : p ≠ c := by
  refine ne_of h h2 fun e => ?_
  injection e with e
  cases ns with
  | nil => cases e
  | cons a r =>
    rw [List.map_cons] at e
    injection e with e1 e2
    cases e1
/-- all but p stands as it stood, the pen at p stands -/
structure Kp (p c : Addr) (H H' : Hp) : Prop where
  but : ∀ b o, b ≠ p → H b = some o → H' b = some o
  pen : Pen H' p c
theorem Kp.rfl' {p c : Addr} {H : Hp} (h : Pen H p c) : Kp p c H H := ⟨fun _ _ _ e => e, h⟩
theorem Kp.trans {p c : Addr} {H H1 H2 : Hp} (a : Kp p c H H1) (b : Kp p c H1 H2) : Kp p c H H2 := ⟨fun x o n e => b.but x o n (a.but x o n e), b.pen⟩
theorem Pen.ne {H : Hp} {p c q : Addr} (h : Pen H p c) (hq : H q = none) : q ≠ p := by
  obtain ⟨ns, i, j, h1, _⟩ := h
  exact (ne_of_none h1 hq).symm
theorem Pen.neC {H : Hp} {p c q : Addr} (h : Pen H p c) (hq : H q = none) : q ≠ c := by
  obtain ⟨ns, i, j, _, h1⟩ := h
  exact (ne_of_none h1 hq).symm
theorem Pen.put {H : Hp} {p c q : Addr} {o : HO} (h : Pen H p c) (n1 : q ≠ p) (n2 : q ≠ c) : Pen (upd H q o) p c := by
  obtain ⟨ns, i, j, h1, h2⟩ := h
  exact ⟨ns, i, j, by rw [upd_ne n1.symm]; exact h1, by rw [upd_ne n2.symm]; exact h2⟩
theorem Pen.new {H : Hp} {p c q : Addr} {o : HO} (h : Pen H p c) (hq : H q = none) : Pen (upd H q o) p c := h.put (h.ne hq) (h.neC hq)
theorem Kp.new {H H' : Hp} {p c q : Addr} {o : HO} (h : Kp p c H H') (hq : H' q = none) : Kp p c H (upd H' q o) :=
  ⟨fun b u n e => by rw [upd_ne (ne_of_none (h.but b u n e) hq)]; exact h.but b u n e, h.pen.new hq⟩
/-- something made since is changed -/
theorem Kp.put {H H' : Hp} {p c q : Addr} {o : HO} (h : Kp p c H H') (hP : Pen H p c) (hq : H q = none) : Kp p c H (upd H' q o) :=
  ⟨fun b u n e => by rw [upd_ne (ne_of_none e hq)]; exact h.but b u n e, h.pen.put (hP.ne hq) (hP.neC hq)⟩
theorem Kp.free {H H' : Hp} {p c q : Addr} (h : Kp p c H H') (hq : H' q = none) : H q = none := by
  cases e : H q with
  | none => rfl
  | some o =>
    rw [h.but q o (h.pen.ne hq) e] at hq
    cases hq
theorem Kp.seqL {K : PySem.W.Frag} {p c a : Addr} {H H' : Hp} {xs : List V} (k : Kp p c H H') (n : a ≠ p) (h : SqL K H a xs) : SqL K H' a xs := by
  rcases h with (h | ⟨o, h⟩) | h
  · exact .inl (.inl (k.but _ _ n h))
  · exact .inl (.inr ⟨o, k.but _ _ n h⟩)
  · exact .inr h

/-- the built-in names that these defs read -/
structure BN (mg : Str → Option Value) : Prop where
  list : mg "list" = none
  int : mg "int" = none
  len : mg "len" = none
  range : mg "range" = none

def spPen (K : PySem.W.Frag) : Sp := fun vs H Q _ => ∃ (a : Addr) (ns : List Int), vs = [.ref a] ∧ SqL K H a (ns.map V.int) ∧
  ∀ H' p c, Same H H' → Pen H' p c → H p = none → Q (.ref p) H'
def spFresh : Sp := fun vs H Q _ => ∃ p c : Addr, vs = [.ref p] ∧ Pen H p c ∧ ∀ (z : Int) H', Kp p c H H' → Q (.int z) H'
/-- a number from 0 to b - 1 -/
def spDraw : Sp := fun vs H Q _ => ∃ (p c : Addr) (b : Int), vs = [.ref p, .int b] ∧ Pen H p c ∧ 0 < b ∧ b.natAbs.log2 < 9000 ∧
  ∀ (d : Int) H', 0 ≤ d → d < b → Kp p c H H' → Q (.int d) H'

theorem sc_pen : FnScope ["script"] ["script"] (fnScope st_law_pen) := fnScope_by (by decide +kernel)
theorem sc_fresh : FnScope ["pen", "place", "cells", "cell", "prime", "state", "found", "lap"] ["pen"] (fnScope st_law_fresh) := fnScope_by (by decide +kernel)
theorem sc_draw : FnScope ["pen", "bound", "digit"] ["pen", "bound"] (fnScope st_law_draw) := fnScope_by (by decide +kernel)

/-- a list of ints is data -/
theorem dp_ints {K : PySem.W.Frag} {H : Hp} : ∀ ns : List Int, DpAll K H (ns.map V.int) (ns.map PyData.int)
  | [] => .nil
  | n :: r => .cons (.int n) (dp_ints r)
theorem shaped_ints (ns : List Int) : SeqAt.shaped (.list (ns.map PyData.int)) = true := by
  have h : ∀ l : List Int, PyData.canLayAll0 (l.map PyData.int) = true ∧ PyData.depthAll (l.map PyData.int) = 0 := by
    intro l
    induction l with
    | nil => exact ⟨by simp only [List.map_nil, PyData.canLayAll0], by simp only [List.map_nil, PyData.depthAll]⟩
    | cons a r ih => exact ⟨by simp only [List.map_cons, PyData.canLayAll0, PyData.canLay0, ih.1, Bool.and_self], by simp only [List.map_cons, PyData.depthAll, PyData.depth, ih.2, Nat.max_self]⟩
  unfold SeqAt.shaped
  simp only [PyData.canLay0, PyData.depth, (h ns).1, (h ns).2, Bool.true_and]
  decide
theorem ints_ne_nil (ns : List Int) : (!PyData.eqv (.list (ns.map PyData.int)) (.list [])) = !ns.isEmpty := by
  cases ns with
  | nil => simp only [List.map_nil, PyData.eqv, PyData.eqvAll, List.isEmpty_nil]
  | cons a r => simp only [List.map_cons, PyData.eqv, PyData.eqvAll, List.isEmpty_cons]
theorem prime_ok : (-(2 ^ 64) < (2305843009213693951 : Int) ∧ (2305843009213693951 : Int) < 2 ^ 64) := by decide

section
variable {P : Program} {w : World} {K : PySem.W.Frag} {mg : Str → Option Value} {base : Heap} {f : Addr} {fd : FuncData}
theorem cal_pen (F : C8.Def K mg "_law_pen" st_law_pen f fd) (b : Binds K fd ["script"] []) (B : BN mg) : Cal P w K mg base 1 "_law_pen" (spPen K) [] := by
  refine cal0 F b .nil sc_pen (fun vs H Q E h => ?_) (fun cdv A outer s H vs Q E hr h => ?_)
  · obtain ⟨a, ns, rfl, _⟩ := h
    rfl
  · obtain ⟨a, ns, rfl, hS, k⟩ := h
    refine ⟨_, pss_one (ps_ret (pe_lst (pa_cons (pe_callTy call_list_of (by rfl) B.list (by decide +kernel) (pa_cons (pe_slice sl_list (pv 0) po_none (po_some pe_int)) pa_nil)) (pa_cons pe_int (pa_cons pe_int pa_nil))))), ?_⟩
    refine ⟨_, rfl, _, rfl, a, _, rfl, hS, fun p hp => ?_⟩
    refine ⟨p, _, rfl, .inl (SqL.of upd_same), fun l hl => ?_⟩
    refine ⟨(by show 3 ≤ sizeLine; decide), fun q hq => ?_⟩
    have hl0 : H l = none := by
      have n : l ≠ p := fun z => by
        rw [z, upd_same] at hl
        cases hl
      rw [upd_ne n] at hl
      exact hl
    have s1 : Same H (upd (upd H p (.lst (cutV (ns.map V.int) none (some 63)))) l (.lst (cutV (ns.map V.int) none (some 63)))) := fun b o e => by
      rw [upd_ne (ne_of_none e hl0), upd_ne (ne_of_none e hp)]
      exact e
    obtain ⟨ms, hms⟩ : ∃ ms : List Int, cutV (ns.map V.int) none (some 63) = ms.map V.int := by
      unfold cutV
      rw [← List.map_drop, ← List.map_take]
      exact ⟨_, rfl⟩
    refine k _ q l (fun b o e => ?_) ⟨ms, 0, 0, upd_same, ?_⟩ (s1.free hq)
    · rw [upd_ne (ne_of_none (s1 b o e) hq)]
      exact s1 b o e
    · have n : l ≠ q := fun z => by
        rw [← z, upd_same] at hq
        cases hq
      rw [upd_ne n, upd_same, hms]
theorem cal_fresh (F : C8.Def K mg "_law_fresh" st_law_fresh f fd) (b : Binds K fd ["pen"] []) (B : BN mg) : Cal P w K mg base 1 "_law_fresh" spFresh [] := by
  refine cal0 F b .nil sc_fresh (fun vs H Q E h => ?_) (fun cdv A outer s H vs Q E hr h => ?_)
  · obtain ⟨p, c, rfl, _⟩ := h
    rfl
  · obtain ⟨p, c, rfl, ⟨ns, i, j, hp, hc⟩, k⟩ := h
    have hpc := pen_ne hp hc
    refine ⟨_, pss_cons (ps_par (i := 1) (j := 2) rfl sc_fresh.nd rfl rfl (by decide) rfl rfl (pa_cons (pe_ix ix_list (pv 0) pe_int (fun _ _ => rfl)) (pa_cons (pe_ix ix_list (pv 0) pe_int (fun _ _ => rfl)) pa_nil)) (by rfl))
      (pss_cons (ps_asg (pe_op op_add (pv 1) pe_int) (pg_sub (pv 0) pe_int set_list))
      (pss_cut (ps_set (i := 3) sc_fresh.nd rfl (Or.inl rfl) (pe_ifExp (pt_cmpR (op_neD hr.units) (pv 2) (pe_lst pa_nil) (nomark _)) (pe_ix ix_list (pv 2) (pe_op op_mod (pe_callTy call_int1 (by rfl) B.int (by decide +kernel) (pa_cons (pv 1) pa_nil)) (pe_callB call_len_seq (by rfl) B.len PySem.boot_len (pa_cons (pv 2) pa_nil))) (fun _ _ => rfl)) pe_int))
      (pss_cut (ps_if (PW.pt (pw_and (pt_cmpR op_lt (pv 1) (pe_callB call_len_seq (by rfl) B.len PySem.boot_len (pa_cons (pv 2) pa_nil)) (nomark _)) (pw_and1 (pt_cmpR op_ge (pv 3) (pe_op op_pow pe_int pe_int) (nomark _))))) (pss_one (ps_ret (pe_op op_sub (pv 3) (pe_op op_pow pe_int pe_int)))) pss_nil)
      (pss_cons (ps_set (i := 4) sc_fresh.nd rfl (Or.inl rfl) pe_int)
      (pss_cons (ps_set (i := 5) sc_fresh.nd rfl (Or.inl rfl) (pe_op op_mod (pe_callTy call_int1 (by rfl) B.int (by decide +kernel) (pa_cons (pe_op op_add (pe_op op_add (pe_op op_mul (pv 3) pe_int) (pe_op op_mul pe_int (pv 1))) pe_int) pa_nil)) (pv 4)))
      (pss_cons (ps_set (i := 6) sc_fresh.nd rfl (Or.inl rfl) (pv 5))
      (pss_cons (ps_for PassesOwn.never rfl (pi_range1 rfl B.range (pa_cons pe_int pa_nil)) (pg_name (i := 7) sc_fresh.nd rfl (Or.inl rfl))
        (pss_cons (ps_set (i := 5) sc_fresh.nd rfl (Or.inl rfl) (pe_op op_mod (pe_callTy call_int1 (by rfl) B.int (by decide +kernel) (pa_cons (pe_op op_add (pe_op op_add (pe_op op_mul (pv 5) (pv 5)) (pe_op op_mul (pe_op op_mul pe_int (pe_op op_add (pv 7) pe_int)) (pe_op op_add (pv 1) pe_int))) (pv 3)) pa_nil)) (pv 4)))
        (pss_one (ps_set (i := 6) sc_fresh.nd rfl (Or.inl rfl) (pe_op op_add (pe_op op_mul (pv 6) (pv 4)) (pv 5))))))
      (pss_one (ps_ret (pv 6)))))))))), ?_⟩
    refine ⟨_, rfl, p, _, _, _, rfl, rfl, SqL.of hp, atI_nat (j := 1) rfl, _, rfl, p, _, _, _, rfl, rfl, SqL.of hp, atI_nat (j := 0) rfl, _, _, rfl, ?_⟩
    refine ⟨_, rfl, _, _, rfl, rfl, _, rfl, p, _, _, 1, rfl, rfl, hp, rfl, ?_⟩
    have hp1 : upd H p (.lst [.ref c, .int (i + 1), .int j]) p = some (.lst [.ref c, .int (i + 1), .int j]) := upd_same
    have hc1 : upd H p (.lst [.ref c, .int (i + 1), .int j]) c = some (.lst (ns.map V.int)) := by
      rw [upd_ne hpc.symm]
      exact hc
    have k1 : Kp p c H (upd H p (.lst [.ref c, .int (i + 1), .int j])) := ⟨fun b o n e => by rw [upd_ne n]; exact e, ns, i + 1, j, hp1, hc1⟩
    -- behind the third statement the cell is some number; a new empty list stands
    refine ⟨fun σ H' => (∃ z : Int, σ = [some (.ref p), some (.int i), some (.ref c), some (.int z), none, none, none, none]) ∧ Kp p c H H' ∧ H' c = some (.lst (ns.map V.int)), ?_, ?_⟩
    · refine ⟨_, rfl, Nat.zero_le _, fun q hq => ?_⟩
      have k2 : Kp p c H (upd (upd H p (.lst [.ref c, .int (i + 1), .int j])) q (.lst [])) := k1.new hq
      have hc2 : upd (upd H p (.lst [.ref c, .int (i + 1), .int j])) q (.lst []) c = some (.lst (ns.map V.int)) := by
        rw [upd_ne (ne_of_none hc1 hq)]
        exact hc1
      refine ⟨.list (ns.map PyData.int), .list [], .lst (SqL.of hc2) (dp_ints ns), .lst (SqL.of upd_same) .nil, shaped_ints ns, by decide, _, rfl, ?_⟩
      rw [ints_ne_nil]
      cases ns with
      | nil =>
        refine iteF ?_
        exact ⟨⟨0, rfl⟩, k2, hc2⟩
      | cons n r =>
        refine iteT ?_
        have hm : (0 : Int) ≤ i % (((n :: r).map V.int).length : Nat) ∧ i % (((n :: r).map V.int).length : Nat) < (((n :: r).map V.int).length : Nat) := by
          have h0 : (0 : Int) < (((n :: r).map V.int).length : Nat) := by
            rw [List.length_map, List.length_cons]
            omega
          exact ⟨Int.emod_nonneg _ (by omega), Int.emod_lt_of_pos _ h0⟩
        obtain ⟨u, hu⟩ : ∃ u : Nat, i % (((n :: r).map V.int).length : Nat) = (u : Int) := ⟨_, (Int.toNat_of_nonneg hm.1).symm⟩
        have hlt : u < (n :: r).length := by
          have q := hm.2
          rw [hu, List.length_map] at q
          omega
        refine ⟨_, rfl, _, rfl, .inl ⟨_, rfl, _, rfl, c, _, rfl, .inl (SqL.of hc2), _, _, rfl, rfl, ?_, c, _, _, .int ((n :: r)[u]), rfl, rfl, SqL.of hc2, ?_, ⟨_, rfl⟩, k2, hc2⟩⟩
        · rw [List.length_map, List.length_cons]
          omega
        · rw [hu]
          exact atI_nat (by rw [List.getElem?_map, List.getElem?_eq_getElem hlt]; rfl)
    · rintro σ H2 ⟨⟨z, rfl⟩, k2, hc2⟩
      refine ⟨fun σ H' => σ = [some (.ref p), some (.int i), some (.ref c), some (.int z), none, none, none, none] ∧ H' = H2, ?_, ?_⟩
      · refine ⟨_, rfl, _, rfl, c, _, rfl, .inl (SqL.of hc2), _, _, rfl, rfl, _, rfl, ?_⟩
        refine ite2 (fun _ => ?_) (fun _ => ?_)
        · refine ⟨_, rfl, _, _, rfl, rfl, ⟨by decide, by decide, by decide⟩, _, _, rfl, rfl, _, rfl, ?_⟩
          refine ite2 (fun _ => ?_) (fun _ => ?_)
          · exact ⟨_, rfl, _, _, rfl, rfl, ⟨by decide, by decide, by decide⟩, _, _, rfl, rfl, k _ _ k2⟩
          · exact ⟨rfl, rfl⟩
        · exact iteF ⟨rfl, rfl⟩
      · rintro σ H3 ⟨rfl, rfl⟩
        refine ⟨_, rfl, _, _, rfl, rfl, .inr ⟨by decide, by decide⟩, _, rfl, _, _, rfl, rfl, .inl ⟨by decide, by decide⟩, _, _, rfl, rfl, _, _, rfl, rfl, .inl ⟨_, rfl, ?_⟩⟩
        refine ⟨_, rfl, _, _, rfl, rfl, (by show (0 : Int) < 2305843009213693951; decide), ?_⟩
        refine ⟨_, rfl, ?_⟩
        refine ⟨6, rfl, by decide, by decide, for_range (n := 6) (fun _ σ H' => H' = H3 ∧ ∃ (st fo : Int) (v : Option V), 0 ≤ st ∧ st < 2305843009213693951 ∧ σ = [some (.ref p), some (.int i), some (.ref c), some (.int z), some (.int 2305843009213693951), some (.int st), some (.int fo), v]) ⟨rfl, _, _, _, Int.emod_nonneg _ (by decide), Int.emod_lt_of_pos _ (by decide), rfl⟩ ?_ ?_⟩
        · rintro i' σ H4 hi ⟨rfl, st, fo, v, h0, h1, rfl⟩
          refine ⟨_, rfl, _, rfl, _, _, rfl, rfl, .inl ⟨by omega, by omega⟩, _, rfl, _, _, rfl, rfl, _, _, rfl, rfl, .inl ⟨by decide, by decide⟩, _, rfl, _, _, rfl, rfl, _, _, rfl, rfl, .inl ⟨by omega, by omega⟩, _, _, rfl, rfl, _, rfl, _, _, rfl, rfl, .inl ⟨_, rfl, ?_⟩⟩
          refine ⟨_, rfl, _, _, rfl, rfl, (by show (0 : Int) < 2305843009213693951; decide), ?_⟩
          refine ⟨_, rfl, _, rfl, _, _, rfl, rfl, .inr prime_ok, _, rfl, _, _, rfl, rfl, ?_⟩
          exact ⟨rfl, _, _, _, Int.emod_nonneg _ (by decide), Int.emod_lt_of_pos _ (by decide), rfl⟩
        · rintro σ H4 ⟨rfl, st, fo, v, h0, h1, rfl⟩
          exact ⟨_, rfl, k _ _ k2⟩
theorem cal_draw (F : C8.Def K mg "_law_draw" st_law_draw f fd) (b : Binds K fd ["pen", "bound"] []) (B : BN mg) (Cf : Cal P w K mg base 1 "_law_fresh" spFresh []) : Cal P w K mg base 2 "_law_draw" spDraw [] := by
  refine cal0 F b .nil sc_draw (fun vs H Q E h => ?_) (fun cdv A outer s H vs Q E hr h => ?_)
  · obtain ⟨p, c, n, rfl, _⟩ := h
    rfl
  · obtain ⟨p, c, n, rfl, hP, h0, h9, k⟩ := h
    refine ⟨_, pss_cut (ps_if (pt_cmpR op_lt (pe_ix ix_list (pv 0) pe_int (fun _ _ => rfl)) (pv 1) (nomark _)) (pss_one (ps_asg (pe_c Cf hr (by decide) (by rfl) (pa_cons (pv 0) pa_nil)) (pg_sub (pv 0) pe_int set_list))) pss_nil)
      (pss_cons (ps_set (i := 2) sc_draw.nd rfl (Or.inl rfl) (pe_op op_mod (pe_callTy call_int1 (by rfl) B.int (by decide +kernel) (pa_cons (pe_ix ix_list (pv 0) pe_int (fun _ _ => rfl)) pa_nil)) (pv 1)))
      (pss_cons (ps_asg (pe_op op_fdivW (pe_callTy call_int1 (by rfl) B.int (by decide +kernel) (pa_cons (pe_ix ix_list (pv 0) pe_int (fun _ _ => rfl)) pa_nil)) (pv 1)) (pg_sub (pv 0) pe_int set_list))
      (pss_one (ps_ret (pv 2))))), ?_⟩
    refine ⟨fun σ H' => σ = [some (.ref p), some (.int n), none] ∧ Kp p c H H', ?_, ?_⟩
    · obtain ⟨ns, i, j, hp, hc⟩ := id hP
      refine ⟨_, rfl, p, _, _, _, rfl, rfl, SqL.of hp, atI_nat (j := 2) rfl, _, rfl, _, _, rfl, rfl, _, rfl, ?_⟩
      refine ite2 (fun _ => ?_) (fun _ => ?_)
      · refine ⟨_, rfl, p, c, rfl, hP, fun z H1 k1 => ?_⟩
        obtain ⟨ns1, i1, j1, hp1, hc1⟩ := k1.pen
        refine ⟨_, rfl, p, _, _, 2, rfl, rfl, hp1, rfl, rfl, k1.trans ⟨fun b o n e => by rw [upd_ne n]; exact e, ns1, i1, z, upd_same, ?_⟩⟩
        rw [upd_ne (pen_ne hp1 hc1).symm]
        exact hc1
      · exact ⟨rfl, Kp.rfl' hP⟩
    · rintro σ H1 ⟨rfl, k1⟩
      obtain ⟨ns, i, j, hp, hc⟩ := k1.pen
      refine ⟨_, rfl, p, _, _, _, rfl, rfl, SqL.of hp, atI_nat (j := 2) rfl, .inl ⟨_, rfl, _, rfl, _, _, rfl, rfl, h0, ?_⟩⟩
      refine ⟨_, rfl, p, _, _, _, rfl, rfl, SqL.of hp, atI_nat (j := 2) rfl, .inl ⟨_, rfl, _, rfl, _, _, rfl, rfl, ⟨h0, h9⟩, _, rfl, p, _, _, 2, rfl, rfl, hp, rfl, ?_⟩⟩
      refine ⟨_, rfl, k _ _ (Int.emod_nonneg _ (by omega)) (Int.emod_lt_of_pos _ h0) (k1.trans ⟨fun b o n e => by rw [upd_ne n]; exact e, ns, i, j / n, upd_same, ?_⟩)⟩
      rw [upd_ne (pen_ne hp hc).symm]
      exact hc
end

/-! ### one of some things; texts, words -/
/-- a part of a list that is not the pen, or a sign of a text -/
def spOne (K : PySem.W.Frag) : Sp := fun vs H Q _ => ∃ p c : Addr, Pen H p c ∧
  ((∃ (a : Addr) (xs : List V), vs = [.ref p, .ref a] ∧ a ≠ p ∧ SqL K H a xs ∧ 0 < xs.length ∧ xs.length < 1000 ∧ ∀ (x : V) H', x ∈ xs → Kp p c H H' → Q x H') ∨
   (∃ z : Str, vs = [.ref p, .str z] ∧ 0 < z.length ∧ z.length < 1000 ∧ ∀ (g : Nat) H', g ∈ z.cps.toList → Kp p c H H' → Q (.str ⟨#[g]⟩) H'))
theorem sc_one : FnScope ["pen", "rows"] ["pen", "rows"] (fnScope st_law_one_of) := fnScope_by (by decide +kernel)
theorem log_small {b : Int} (h0 : 0 < b) (h : b < 1000) : b.natAbs.log2 < 9000 := by
  have h1 : b.natAbs ≠ 0 := by omega
  rw [Nat.log2_lt h1]
  exact Nat.lt_of_lt_of_le (show b.natAbs < 2 ^ 10 by omega) (Nat.pow_le_pow_right (by decide) (by decide))

/-- a text of small letters, not longer than n -/
structure Tx (n : Nat) (z : Str) : Prop where
  len : z.length ≤ n
  low : ∀ c ∈ z.cps.toList, 97 ≤ c ∧ c ≤ 122
def spPiece : Sp := fun vs H Q _ => ∃ (p c : Addr) (m : Nat), vs = [.ref p, .int m] ∧ Pen H p c ∧ 0 < m ∧ m < 900 ∧
  ∀ (z : Str) H', 0 < z.length → Tx m z → Kp p c H H' → Q (.str z) H'
def abc : List Str := ["ab", "ab", "a", "abc", "abcdefghijklmnopqrstuvwxyz"]
theorem abc_low : ∀ z ∈ abc, 0 < z.length ∧ z.length < 1000 ∧ ∀ c ∈ z.cps.toList, 97 ≤ c ∧ c ≤ 122 := by decide +kernel
/-- texts joined: their signs one behind the other -/
theorem join_nil : ∀ l : List (List Nat), TL.joinL [] l = l.flatten
  | [] => rfl
  | [x] => by
    show x = [x].flatten
    rw [List.flatten_cons, List.flatten_nil, List.append_nil]
  | x :: z :: r => by
    show x ++ ([] ++ TL.joinL [] (z :: r)) = (x :: z :: r).flatten
    rw [List.nil_append, join_nil (z :: r), List.flatten_cons (l := x)]
theorem join_cps (ys : List Str) : (Txt.join "" ys).cps.toList = (ys.map fun y => y.cps.toList).flatten := by
  have e : TL.tl (Txt.join "" ys) = TL.joinL (TL.tl "") (ys.map TL.tl) := (congrArg TL.tl (TL.join_eq "" ys)).trans (TL.tl_join "" ys)
  exact e.trans (join_nil _)
theorem join_len (ys : List Str) : (Txt.join "" ys).length = (ys.map (·.length)).sum := by
  have e : (Txt.join "" ys).length = (Txt.join "" ys).cps.toList.length := (Array.length_toList).symm
  rw [e, join_cps, List.length_flatten, List.map_map]
  exact congrArg List.sum (List.map_congr_left fun y _ => Array.length_toList)
theorem lens_one : ∀ ys : List Str, (∀ y ∈ ys, y.length = 1) → (ys.map (·.length)).sum = ys.length
  | [], _ => rfl
  | y :: r, h => by
    rw [List.map_cons, List.sum_cons, h y List.mem_cons_self, lens_one r fun z hz => h z (List.mem_cons_of_mem _ hz), List.length_cons]
    omega
section
variable {P : Program} {w : World} {K : PySem.W.Frag} {mg : Str → Option Value} {base : Heap} {f : Addr} {fd : FuncData}
theorem cal_one (F : C8.Def K mg "_law_one_of" st_law_one_of f fd) (b : Binds K fd ["pen", "rows"] []) (B : BN mg) (Cd : Cal P w K mg base 2 "_law_draw" spDraw []) : Cal P w K mg base 3 "_law_one_of" (spOne K) [] := by
  refine cal0 F b .nil sc_one (fun vs H Q E h => ?_) (fun cdv A outer s H vs Q E hr h => ?_)
  · obtain ⟨p, c, _, h⟩ := h
    rcases h with ⟨a, xs, rfl, _⟩ | ⟨z, rfl, _⟩ <;> rfl
  · obtain ⟨p, c, hP, h⟩ := h
    refine ⟨_, pss_one (ps_ret (pe_ix (IxR.or ix_list ix_str) (pv 1) (pe_c Cd hr (by decide) (by rfl) (pa_cons (pv 0) (pa_cons (pe_callB (CallR.or call_len_seq call_len_str) (by rfl) B.len PySem.boot_len (pa_cons (pv 1) pa_nil)) pa_nil))) (fun _ _ => rfl))), ?_⟩
    rcases h with ⟨a, xs, rfl, na, hS, h0, h1, k⟩ | ⟨z, rfl, h0, h1, k⟩
    · refine ⟨_, rfl, _, rfl, _, rfl, .inl ⟨a, xs, rfl, .inl hS, p, c, _, rfl, hP, by omega, log_small (by omega) (by omega), fun d H1 d0 d1 k1 => ?_⟩⟩
      obtain ⟨u, rfl⟩ : ∃ u : Nat, d = (u : Int) := ⟨_, (Int.toNat_of_nonneg d0).symm⟩
      have hlt : u < xs.length := by omega
      exact .inl ⟨a, xs, _, xs[u], rfl, rfl, k1.seqL na hS, atI_nat (List.getElem?_eq_getElem hlt), k _ _ (List.getElem_mem hlt) k1⟩
    · refine ⟨_, rfl, _, rfl, _, rfl, .inr ⟨z, rfl, Nat.le_of_lt (Nat.lt_of_lt_of_le h1 (by decide)), p, c, _, rfl, hP, by omega, log_small (by omega) (by omega), fun d H1 d0 d1 k1 => ?_⟩⟩
      obtain ⟨u, rfl⟩ : ∃ u : Nat, d = (u : Int) := ⟨_, (Int.toNat_of_nonneg d0).symm⟩
      have hlt : u < z.cps.toList.length := by
        rw [Array.length_toList]
        have e : z.length = z.cps.size := rfl
        omega
      exact .inr ⟨z, _, z.cps.toList[u], rfl, rfl, Nat.le_of_lt (Nat.lt_of_lt_of_le h1 (by decide)), atI_nat (List.getElem?_eq_getElem hlt), k _ _ (List.getElem_mem hlt) k1⟩
end

/-! ### recipes: parts, their buffers, their letters -/
inductive Pt where
  | s (z : Str)
  | b (i : Nat)
abbrev Rc := List Pt
def Pt.v : Pt → V
  | .s z => .str z
  | .b i => .int i
def Pt.d : Pt → PyData
  | .s z => .str z
  | .b i => .int i
def Pt.buf : Pt → List Nat
  | .s _ => []
  | .b i => [i]
def Pt.let : Pt → Nat
  | .s z => z.length
  | .b _ => 0
def Pt.low : Pt → Prop
  | .s z => ∀ c ∈ z.cps.toList, 97 ≤ c ∧ c ≤ 122
  | .b _ => True
def bufs (r : Rc) : List Nat := r.flatMap Pt.buf
def lets (r : Rc) : Nat := (r.map Pt.let).sum
def lowR (r : Rc) : Prop := ∀ q ∈ r, q.low
theorem bufs_app (a b : Rc) : bufs (a ++ b) = bufs a ++ bufs b := List.flatMap_append
theorem lets_app (a b : Rc) : lets (a ++ b) = lets a + lets b := by
  unfold lets
  rw [List.map_append, List.sum_append]
theorem lets_one (q : Pt) : lets [q] = q.let := by
  unfold lets
  rw [List.map_cons, List.map_nil, List.sum_cons, List.sum_nil, Nat.add_zero]
theorem bufs_one (q : Pt) : bufs [q] = q.buf := by
  unfold bufs
  rw [List.flatMap_cons, List.flatMap_nil, List.append_nil]
theorem lowR_app {a b : Rc} (h : lowR a) (h2 : lowR b) : lowR (a ++ b) := fun q hq => (List.mem_append.mp hq).elim (h q) (h2 q)
theorem lowR_one {q : Pt} (h : q.low) : lowR [q] := fun x hx => by
  obtain rfl := List.mem_singleton.mp hx
  exact h
theorem low_strOk {z : Str} (h : ∀ c ∈ z.cps.toList, 97 ≤ c ∧ c ≤ 122) : PyData.strOk z = true := by
  unfold PyData.strOk
  rw [← Array.all_toList, List.all_eq_true]
  intro c hc
  have q := (h c hc).2
  exact decide_eq_true (by omega)
theorem low_cat {x y : Str} (h : ∀ c ∈ x.cps.toList, 97 ≤ c ∧ c ≤ 122) (h2 : ∀ c ∈ y.cps.toList, 97 ≤ c ∧ c ≤ 122) : ∀ c ∈ (x ++ y).cps.toList, 97 ≤ c ∧ c ≤ 122 := by
  intro c hc
  rw [Str.cps_append, Array.toList_append] at hc
  exact (List.mem_append.mp hc).elim (h c) (h2 c)
theorem len_cat (x y : Str) : (x ++ y).length = x.length + y.length := by
  show (x ++ y).cps.size = x.cps.size + y.cps.size
  rw [Str.cps_append, Array.size_append]

/-- the parts put together: pieces side by side become one -/
def nstep (f : Rc) : Pt → Rc
  | .b i => f ++ [.b i]
  | .s z => match f.getLast? with
    | some (.s y) => f.dropLast ++ [.s (y ++ z)]
    | _ => if z = "" then f else f ++ [.s z]
def normal (ps : Rc) : Rc := ps.foldl nstep []
theorem nstep_glue (g : Rc) (y z : Str) : nstep (g ++ [.s y]) (.s z) = g ++ [.s (y ++ z)] := by
  unfold nstep
  rw [List.getLast?_concat, List.dropLast_concat]
theorem nstep_behind (g : Rc) (i : Nat) (z : Str) : nstep (g ++ [.b i]) (.s z) = if z = "" then g ++ [.b i] else g ++ [.b i] ++ [.s z] := by
  unfold nstep
  rw [List.getLast?_concat]
theorem nstep_first (z : Str) : nstep [] (.s z) = if z = "" then [] else [.s z] := rfl
theorem len_empty {z : Str} (h : z = "") : z.length = 0 := by
  subst h
  decide
structure NOk (f : Rc) (q : Pt) (g : Rc) : Prop where
  buf : bufs g = bufs f ++ q.buf
  lt : lets g = lets f + q.let
  len : g.length ≤ f.length + 1
  low : lowR f → q.low → lowR g
theorem nok_push (f : Rc) (q : Pt) : NOk f q (f ++ [q]) :=
  ⟨by rw [bufs_app, bufs_one], by rw [lets_app, lets_one], by rw [List.length_append, List.length_singleton]; exact Nat.le_refl _, fun h1 h2 => lowR_app h1 (lowR_one h2)⟩
theorem nok_same (f : Rc) {z : Str} (h : z = "") : NOk f (.s z) f :=
  ⟨(List.append_nil _).symm, by show lets f = lets f + z.length; rw [len_empty h, Nat.add_zero], Nat.le_succ _, fun h1 _ => h1⟩
theorem nok_glue (g : Rc) (y z : Str) : NOk (g ++ [.s y]) (.s z) (g ++ [.s (y ++ z)]) := by
  refine ⟨?_, ?_, ?_, fun h1 h2 => ?_⟩
  · rw [bufs_app, bufs_app, bufs_one, bufs_one]
    show bufs g ++ [] = bufs g ++ [] ++ []
    rw [List.append_nil, List.append_nil]
  · rw [lets_app, lets_app, lets_one, lets_one]
    show lets g + (y ++ z).length = lets g + y.length + z.length
    rw [len_cat, Nat.add_assoc]
  · rw [List.length_append, List.length_append]
    exact Nat.le_succ _
  · refine lowR_app (fun q hq => h1 q (List.mem_append_left _ hq)) (lowR_one ?_)
    exact low_cat (h1 (.s y) (List.mem_append_right _ (List.mem_singleton.mpr rfl))) h2
theorem nstep_ok (f : Rc) (q : Pt) : NOk f q (nstep f q) := by
  cases q with
  | b i => exact nok_push f _
  | s z =>
    rcases List.eq_nil_or_concat f with rfl | ⟨g, l, rfl⟩
    · rw [nstep_first]
      by_cases h : z = ""
      · rw [if_pos h]
        exact nok_same [] h
      · rw [if_neg h]
        exact nok_push [] _
    · rw [List.concat_eq_append]
      cases l with
      | s y =>
        rw [nstep_glue]
        exact nok_glue g y z
      | b i =>
        rw [nstep_behind]
        by_cases h : z = ""
        · rw [if_pos h]
          exact nok_same _ h
        · rw [if_neg h]
          exact nok_push _ _
theorem normal_ok : ∀ (ps f : Rc), bufs (ps.foldl nstep f) = bufs f ++ bufs ps ∧ lets (ps.foldl nstep f) = lets f + lets ps ∧ (ps.foldl nstep f).length ≤ f.length + ps.length ∧ (lowR f → lowR ps → lowR (ps.foldl nstep f))
  | [], f => ⟨(List.append_nil _).symm, rfl, Nat.le_refl _, fun h _ => h⟩
  | q :: r, f => by
    have a := nstep_ok f q
    obtain ⟨h1, h2, h3, h4⟩ := normal_ok r (nstep f q)
    rw [List.foldl_cons]
    refine ⟨?_, ?_, ?_, fun l1 l2 => ?_⟩
    · rw [h1, a.buf, List.append_assoc]
      exact congrArg _ (List.flatMap_cons).symm
    · rw [h2, a.lt, Nat.add_assoc]
      rfl
    · rw [List.length_cons]
      have := a.len
      omega
    · exact h4 (a.low l1 (l2 q List.mem_cons_self)) fun x hx => l2 x (List.mem_cons_of_mem _ hx)
theorem foldl_more {α β : Type} (g : β → α → β) (b : β) {l : List α} {i : Nat} {x : α} (h : l[i]? = some x) : (l.take (i + 1)).foldl g b = g ((l.take i).foldl g b) x := by
  have e : l.take (i + 1) = l.take i ++ [x] := by
    rw [List.take_add_one, h]
    rfl
  rw [e, List.foldl_append]
  rfl
theorem dp_parts {K : PySem.W.Frag} {H : Hp} : ∀ r : Rc, DpAll K H (r.map Pt.v) (r.map Pt.d)
  | [] => .nil
  | .s z :: r => .cons (.str z) (dp_parts r)
  | .b i :: r => .cons (.int i) (dp_parts r)
theorem parts_flat : ∀ r : Rc, lowR r → PyData.canLayAll0 (r.map Pt.d) = true ∧ PyData.depthAll (r.map Pt.d) = 0
  | [], _ => ⟨by simp only [List.map_nil, PyData.canLayAll0], by simp only [List.map_nil, PyData.depthAll]⟩
  | .s z :: r, h => by
    obtain ⟨h1, h2⟩ := parts_flat r fun q hq => h q (List.mem_cons_of_mem _ hq)
    have h3 : PyData.strOk z = true := low_strOk (h (.s z) List.mem_cons_self)
    exact ⟨by simp only [List.map_cons, Pt.d, PyData.canLayAll0, PyData.canLay0, h1, h3, Bool.and_self], by simp only [List.map_cons, Pt.d, PyData.depthAll, PyData.depth, h2, Nat.max_self]⟩
  | .b i :: r, h => by
    obtain ⟨h1, h2⟩ := parts_flat r fun q hq => h q (List.mem_cons_of_mem _ hq)
    exact ⟨by simp only [List.map_cons, Pt.d, PyData.canLayAll0, PyData.canLay0, h1, Bool.and_self], by simp only [List.map_cons, Pt.d, PyData.depthAll, PyData.depth, h2, Nat.max_self]⟩
theorem shaped_parts (r : Rc) (h : lowR r) : SeqAt.shaped (.list (r.map Pt.d)) = true := by
  obtain ⟨h1, h2⟩ := parts_flat r h
  unfold SeqAt.shaped
  simp only [PyData.canLay0, PyData.depth, h1, h2, Bool.true_and]
  decide
theorem list_ne_nil (ds : List PyData) : (!PyData.eqv (.list ds) (.list [])) = !ds.isEmpty := by
  cases ds with
  | nil => simp only [PyData.eqv, PyData.eqvAll, List.isEmpty_nil]
  | cons a r => simp only [PyData.eqv, PyData.eqvAll, List.isEmpty_cons]

/-- more built-in names -/
structure BN2 (mg : Str → Option Value) : Prop extends BN mg where
  tuple : mg "tuple" = none
  isi : mg "isinstance" = none
  str : mg "str" = none

def spNormal (K : PySem.W.Frag) : Sp := fun vs H Q _ => ∃ (a : Addr) (ps : Rc), vs = [.ref a] ∧ SqL K H a (ps.map Pt.v) ∧ ps.length ≤ 1000 ∧ lets ps ≤ 100000 ∧ lowR ps ∧
  ∀ t H', Same H H' → H t = none → H' t = some (.tup ((normal ps).map Pt.v)) → Q (.ref t) H'
/-- isinstance(part, str) -/
theorem isi_pt {K : PySem.W.Frag} {H : Hp} (q : Pt) : ∃ (t : Value) (b : Bool), TyX K H q.v t ∧ PySem.W.kitOne K t (.type "str") = some b ∧ (b = true → ∃ z, q = .s z) ∧ (b = false → ∃ i, q = .b i) := by
  cases q with
  | s z => exact ⟨_, true, .base (.str z), kit_ty (by decide +kernel), fun _ => ⟨z, rfl⟩, fun h => (by cases h)⟩
  | b i => exact ⟨_, false, .base (.int i), kit_ty (by decide +kernel), fun h => (by cases h), fun _ => ⟨i, rfl⟩⟩

/-! ### tuples over tuples, as data -/
mutual
inductive Tp (H : Hp) : V → PyData → Prop
  | non : Tp H .non .none
  | bl (b : Bool) : Tp H (.bl b) (.bool b)
  | int (i : Int) : Tp H (.int i) (.int i)
  | str (x : Str) : Tp H (.str x) (.str x)
  | tup {a : Addr} {xs : List V} {ds : List PyData} : H a = some (.tup xs) → TpAll H xs ds → Tp H (.ref a) (.tuple ds)
inductive TpAll (H : Hp) : List V → List PyData → Prop
  | nil : TpAll H [] []
  | cons {v : V} {vs : List V} {d : PyData} {ds : List PyData} : Tp H v d → TpAll H vs ds → TpAll H (v :: vs) (d :: ds)
end
/-- all tuples stand -/
def TK (H H' : Hp) : Prop := ∀ b xs, H b = some (.tup xs) → H' b = some (.tup xs)
theorem TK.trans {H H1 H2 : Hp} (a : TK H H1) (b : TK H1 H2) : TK H H2 := fun x o e => b x o (a x o e)
mutual
theorem Tp.mono {H H' : Hp} (k : TK H H') : ∀ {v : V} {d : PyData}, Tp H v d → Tp H' v d
  | _, _, .non => .non
  | _, _, .bl b => .bl b
  | _, _, .int i => .int i
  | _, _, .str x => .str x
  | _, _, .tup h hs => .tup (k _ _ h) (TpAll.mono k hs)
theorem TpAll.mono {H H' : Hp} (k : TK H H') : ∀ {v : List V} {d : List PyData}, TpAll H v d → TpAll H' v d
  | _, _, .nil => .nil
  | _, _, .cons h hs => .cons (Tp.mono k h) (TpAll.mono k hs)
end
mutual
theorem Tp.dp {K : PySem.W.Frag} {H : Hp} : ∀ {v : V} {d : PyData}, Tp H v d → Dp K H v d
  | _, _, .non => .non
  | _, _, .bl b => .bl b
  | _, _, .int i => .int i
  | _, _, .str x => .str x
  | _, _, .tup h hs => .tup (SqT.of h) (TpAll.dp hs)
theorem TpAll.dp {K : PySem.W.Frag} {H : Hp} : ∀ {v : List V} {d : List PyData}, TpAll H v d → DpAll K H v d
  | _, _, .nil => .nil
  | _, _, .cons h hs => .cons (Tp.dp h) (TpAll.dp hs)
end
theorem tp_parts {H : Hp} : ∀ r : Rc, TpAll H (r.map Pt.v) (r.map Pt.d)
  | [] => .nil
  | .s z :: r => .cons (.str z) (tp_parts r)
  | .b i :: r => .cons (.int i) (tp_parts r)
theorem TpAll.map {H : Hp} {α : Type} {g : α → V} {e : α → PyData} : ∀ {l : List α}, (∀ x ∈ l, Tp H (g x) (e x)) → TpAll H (l.map g) (l.map e)
  | [], _ => .nil
  | x :: r, h => .cons (h x List.mem_cons_self) (TpAll.map fun y hy => h y (List.mem_cons_of_mem _ hy))
theorem TpAll.app {H : Hp} {a b : List V} {d e : List PyData} (h : TpAll H a d) (h2 : TpAll H b e) : TpAll H (a ++ b) (d ++ e) := by
  induction a generalizing d with
  | nil =>
    cases h
    exact h2
  | cons v r ih =>
    cases h with
    | cons h1 hr => exact .cons h1 (ih hr)
theorem TpAll.get {H : Hp} : ∀ {vs : List V} {ds : List PyData} {i : Nat} {d : PyData}, TpAll H vs ds → ds[i]? = some d → ∃ v, vs[i]? = some v ∧ Tp H v d
  | _, _, _, _, .nil, h => by simp at h
  | _, _, 0, _, .cons h _, e => by
    simp at e
    subst e
    exact ⟨_, rfl, h⟩
  | _, _, i + 1, _, .cons _ hs, e => by
    have e' : _ := e
    rw [List.getElem?_cons_succ] at e'
    obtain ⟨v, h1, h2⟩ := TpAll.get hs e'
    exact ⟨v, by rw [List.getElem?_cons_succ]; exact h1, h2⟩
theorem TpAll.len {H : Hp} : ∀ {vs : List V} {ds : List PyData}, TpAll H vs ds → vs.length = ds.length
  | _, _, .nil => rfl
  | _, _, .cons _ hs => by rw [List.length_cons, List.length_cons, TpAll.len hs]
theorem Same.tk {H H' : Hp} (s : Same H H') : TK H H' := fun b xs e => s b _ e
theorem Kp.tk {p c : Addr} {H H' : Hp} (k : Kp p c H H') (hP : Pen H p c) : TK H H' := fun b xs e => by
  obtain ⟨ns, i, j, h1, _⟩ := hP
  exact k.but b _ (ne_of e h1 (by intro z; cases z)) e
theorem tk_new {H : Hp} {q : Addr} {o : HO} (hq : H q = none) : TK H (upd H q o) := fun b xs e => by
  rw [upd_ne (ne_of_none e hq)]
  exact e
theorem tk_lst {H : Hp} {q : Addr} {ys : List V} {o : HO} (hq : H q = some (.lst ys)) : TK H (upd H q o) := fun b xs e => by
  rw [upd_ne (ne_of e hq (by intro z; cases z))]
  exact e
theorem same_new {H : Hp} {q : Addr} {o : HO} (hq : H q = none) : Same H (upd H q o) := fun b u e => by
  rw [upd_ne (ne_of_none e hq)]
  exact e
theorem Pen.same {H H' : Hp} {p c : Addr} (h : Pen H p c) (s : Same H H') : Pen H' p c := by
  obtain ⟨ns, i, j, h1, h2⟩ := h
  exact ⟨ns, i, j, s _ _ h1, s _ _ h2⟩
theorem Kp.same {H H1 H2 : Hp} {p c : Addr} (k : Kp p c H H1) (s : Same H1 H2) : Kp p c H H2 := ⟨fun b o n e => s b o (k.but b o n e), k.pen.same s⟩

/-! ### a heap without one list -/
def hide (H : Hp) (l : Addr) : Hp := fun b => if b = l then none else H b
theorem hide_ne {H : Hp} {l b : Addr} (h : b ≠ l) : hide H l b = H b := if_neg h
theorem hide_self {H : Hp} {l : Addr} : hide H l l = none := if_pos rfl
theorem Pen.hide {H : Hp} {p c l : Addr} (h : Pen H p c) (n1 : l ≠ p) (n2 : l ≠ c) : Pen (hide H l) p c := by
  obtain ⟨ns, i, j, h1, h2⟩ := h
  exact ⟨ns, i, j, by rw [hide_ne n1.symm]; exact h1, by rw [hide_ne n2.symm]; exact h2⟩
theorem Kp.hide0 {H : Hp} {p c l : Addr} (h : Pen H p c) : Kp p c (hide H l) H := by
  refine ⟨fun b o n e => ?_, h⟩
  by_cases hb : b = l
  · rw [hb, hide_self] at e
    cases e
  · rw [hide_ne hb] at e
    exact e
theorem Kp.thru {H H1 H2 : Hp} {p c l : Addr} (k1 : Kp p c H H1) (k2 : Kp p c (hide H1 l) H2) (hl : H l = none) : Kp p c H H2 :=
  ⟨fun b o n e => k2.but b o n (by rw [hide_ne (ne_of_none e hl)]; exact k1.but b o n e), k2.pen⟩
theorem Kp.unhide {H H' : Hp} {p c l b : Addr} {o : HO} (k : Kp p c (hide H l) H') (n : b ≠ p) (nl : b ≠ l) (h : H b = some o) : H' b = some o := k.but b o n (by rw [hide_ne nl]; exact h)
theorem Kp.freeH {H H' : Hp} {p c l t : Addr} {o : HO} (k : Kp p c (hide H l) H') (hl : H' l = some o) (ht : H' t = none) : H t = none := by
  have h := k.free ht
  rw [hide_ne (ne_of_none hl ht).symm] at h
  exact h

/-! ### lists of small numbers -/
def iN (ls : List Nat) : List Int := ls.map fun (i : Nat) => (i : Int)
theorem rg_eq (n : Nat) : rgV 0 (n : Int) = (iN (List.range n)).map V.int := by
  unfold rgV iN
  rw [List.map_map]
  have e : ((n : Int) - 0).toNat = n := by omega
  rw [e]
  refine List.map_congr_left fun i _ => ?_
  show V.int (0 + (i : Int)) = V.int (i : Int)
  rw [Int.zero_add]
theorem flat_ints (ns : List Int) : (ns.map V.int).all flatV = true := by
  rw [List.all_eq_true]
  intro x hx
  obtain ⟨z, _, rfl⟩ := List.mem_map.mp hx
  rfl
theorem first_hit {xs : List V} {t : V → Bool} (h : xs.any t = true) : ∃ (j : Nat) (z : V), xs[j]? = some z ∧ t z = true ∧ ∀ (m : Nat) (z' : V), m < j → xs[m]? = some z' → t z' = false := by
  induction xs with
  | nil => cases h
  | cons x r ih =>
    cases hx : t x with
    | true => exact ⟨0, x, rfl, hx, fun m _ hm => absurd hm (Nat.not_lt_zero m)⟩
    | false =>
      rw [List.any_cons, hx, Bool.false_or] at h
      obtain ⟨j, z, h1, h2, h3⟩ := ih h
      refine ⟨j + 1, z, by rw [List.getElem?_cons_succ]; exact h1, h2, fun m z' hm e => ?_⟩
      cases m with
      | zero =>
        obtain rfl : x = z' := Option.some.inj e
        exact hx
      | succ m =>
        rw [List.getElem?_cons_succ] at e
        exact h3 m z' (Nat.lt_of_succ_lt_succ hm) e
theorem erase_map {α β : Type} (g : α → β) : ∀ (l : List α) (k : Nat), (l.map g).eraseIdx k = (l.eraseIdx k).map g
  | [], _ => rfl
  | _ :: _, 0 => rfl
  | x :: r, k + 1 => by
    rw [List.map_cons, List.eraseIdx_cons_succ, List.eraseIdx_cons_succ, List.map_cons, erase_map g r k]

theorem erase_perm {α : Type} : ∀ (l : List α) (k : Nat) (h : k < l.length), (l[k] :: l.eraseIdx k).Perm l
  | x :: r, 0, _ => List.Perm.refl _
  | x :: r, k + 1, h => by
    rw [List.eraseIdx_cons_succ, List.getElem_cons_succ]
    exact (List.Perm.swap x _ _).trans ((erase_perm r k (Nat.lt_of_succ_lt_succ h)).cons x)


/-! ### repr of data -/
theorem str_len (s : String) : (Str.ofString s).length = s.length := ofString_length s
/-- data that may be shown: no deeper than k, its weight at most n -/
structure Neat (k n : Nat) (d : PyData) : Prop where
  lay : d.canLay0 = true
  sh : d.showable = true
  shorts : d.intsShort 13 = true
  dep : d.depth ≤ k
  wt : d.weight ≤ n
structure NeatAll (k n : Nat) (ds : List PyData) : Prop where
  lay : PyData.canLayAll0 ds = true
  sh : PyData.showableAll ds = true
  shorts : PyData.intsShortAll 13 ds = true
  dep : PyData.depthAll ds ≤ k
  wt : PyData.weightAll ds ≤ n
theorem Neat.le {k n k' n' : Nat} {d : PyData} (h : Neat k n d) (hk : k ≤ k') (hn : n ≤ n') : Neat k' n' d := ⟨h.lay, h.sh, h.shorts, Nat.le_trans h.dep hk, Nat.le_trans h.wt hn⟩
theorem NeatAll.le {k n k' n' : Nat} {d : List PyData} (h : NeatAll k n d) (hk : k ≤ k') (hn : n ≤ n') : NeatAll k' n' d := ⟨h.lay, h.sh, h.shorts, Nat.le_trans h.dep hk, Nat.le_trans h.wt hn⟩
theorem neat_none : Neat 0 0 .none := ⟨by simp only [PyData.canLay0], by simp only [PyData.showable], by simp only [PyData.intsShort], by simp only [PyData.depth, Nat.le_refl], by simp only [PyData.weight, Nat.le_refl]⟩
theorem neat_bool (b : Bool) : Neat 0 0 (.bool b) := ⟨by simp only [PyData.canLay0], by simp only [PyData.showable], by simp only [PyData.intsShort], by simp only [PyData.depth, Nat.le_refl], by simp only [PyData.weight, Nat.le_refl]⟩
theorem neat_str {z : Str} (h : PyData.strOk z = true) : Neat 0 z.length (.str z) := ⟨by simp only [PyData.canLay0, h], by simp only [PyData.showable], by simp only [PyData.intsShort], by simp only [PyData.depth, Nat.le_refl], by simp only [PyData.weight]; exact Nat.le_refl _⟩
theorem neat_int {i : Int} (h : i.natAbs < 10 ^ 9) : Neat 0 40 (.int i) := by
  have h2 : i.natAbs.log2 < 30 := by
    by_cases h0 : i.natAbs = 0
    · rw [h0]
      decide
    · rw [Nat.log2_lt h0]
      omega
  refine ⟨by simp only [PyData.canLay0], ?_, ?_, by simp only [PyData.depth, Nat.le_refl], ?_⟩
  · simp only [PyData.showable, decide_eq_true_eq]
    omega
  · simp only [PyData.intsShort, PyData.shown, decide_eq_true_eq]
    have q := int_text_length_le10 (a := i) (k := 12) (by decide) (Nat.lt_trans h (by decide))
    exact decide_eq_true (Nat.le_trans (Nat.le_of_eq (str_len _)) q)
  · simp only [PyData.weight]
    split <;> omega
theorem neatAll_nil {k : Nat} : NeatAll k 0 [] := ⟨by simp only [PyData.canLayAll0], by simp only [PyData.showableAll], by simp only [PyData.intsShortAll], by simp only [PyData.depthAll, Nat.zero_le], by simp only [PyData.weightAll, Nat.le_refl]⟩
theorem NeatAll.cons {k a b : Nat} {d : PyData} {ds : List PyData} (h : Neat k a d) (hs : NeatAll k b ds) : NeatAll k (a + 1 + b) (d :: ds) :=
  ⟨by simp only [PyData.canLayAll0, h.lay, hs.lay, Bool.and_self], by simp only [PyData.showableAll, h.sh, hs.sh, Bool.and_self], by simp only [PyData.intsShortAll, h.shorts, hs.shorts, Bool.and_self],
    by simp only [PyData.depthAll]; exact Nat.max_le.mpr ⟨h.dep, hs.dep⟩, by simp only [PyData.weightAll]; exact Nat.add_le_add (Nat.add_le_add_right h.wt 1) hs.wt⟩
theorem NeatAll.tup {k n : Nat} {ds : List PyData} (h : NeatAll k n ds) : Neat (k + 1) n (.tuple ds) :=
  ⟨by simp only [PyData.canLay0, h.lay], by simp only [PyData.showable, h.sh], by simp only [PyData.intsShort, h.shorts], by simp only [PyData.depth]; exact Nat.succ_le_succ h.dep, by simp only [PyData.weight]; exact h.wt⟩
theorem NeatAll.lst {k n : Nat} {ds : List PyData} (h : NeatAll k n ds) : Neat (k + 1) n (.list ds) :=
  ⟨by simp only [PyData.canLay0, h.lay], by simp only [PyData.showable, h.sh], by simp only [PyData.intsShort, h.shorts], by simp only [PyData.depth]; exact Nat.succ_le_succ h.dep, by simp only [PyData.weight]; exact h.wt⟩
theorem neatAll_map {α : Type} {k a : Nat} {g : α → PyData} : ∀ {l : List α}, (∀ x ∈ l, Neat k a (g x)) → NeatAll k (l.length * (a + 1)) (l.map g)
  | [], _ => by
    rw [List.length_nil, Nat.zero_mul]
    exact neatAll_nil
  | x :: r, h => by
    have q := NeatAll.cons (h x List.mem_cons_self) (neatAll_map (l := r) fun y hy => h y (List.mem_cons_of_mem _ hy))
    rw [List.map_cons, List.length_cons, Nat.succ_mul]
    exact q.le (Nat.le_refl _) (by omega)
theorem Neat.fits {k n : Nat} {d : PyData} (h : Neat k n d) (hk : k ≤ 50) (hn : n ≤ 1000000) : d.shown.length ≤ sizeLine := by
  have e : (2 : Nat) ^ 20 = 1048576 := by decide
  have hl : PyData.layable0 d = true := by
    show (PyData.canLay0 d && decide (PyData.depth d ≤ 64) && decide (PyData.weight d ≤ 2 ^ 20)) = true
    have d1 := h.dep
    have d2 := h.wt
    rw [h.lay, decide_eq_true (show d.depth ≤ 64 by omega), decide_eq_true (show d.weight ≤ 2 ^ 20 by omega)]
    rfl
  exact Nat.le_trans (PyProof.Rows.shown_le13 hl h.shorts) (by decide)

/-- repr(x), x some data -/
def rRepr (K : PySem.W.Frag) : List V → Hp → VK → Prop := fun xs H Q => ∃ (x : V) (d : PyData) (k n : Nat), xs = [x] ∧ Dp K H x d ∧ Neat k n d ∧ k ≤ 50 ∧ n ≤ 1000000 ∧ Q (.str d.shown) H
theorem call_repr {X : Cx} (hg : X.A.guards = some []) (hu : X.A.units + 64 < cLine) : CallR X (.builtin "repr") (rRepr X.K) := by
  intro pins s σ H xs us Q I rel h
  obtain ⟨x, d, k, n, rfl, hd, hn, hk, hw, q⟩ := h
  obtain ⟨u, rfl, ru⟩ := vals1 rel
  obtain ⟨as, rr⟩ := Dp.reads I d x u hd ru
  have fits := hn.fits hk hw
  cases hd with
  | non =>
    cases ru
    exact PySem.P.repr_of_none ⟨.str _, H, I.tok _, ⟨_, rfl⟩, q⟩
  | bl b =>
    cases ru
    exact PySem.P.repr_of_bool ⟨.str _, H, I.tok _, ⟨_, rfl⟩, q⟩
  | int i =>
    obtain ⟨t, rfl⟩ := ru
    exact PySem.P.repr_of_int (by have := hn.sh; simpa only [PyData.showable, decide_eq_true_eq] using this) ⟨.str _, H, I.tok _, ⟨_, rfl⟩, q⟩
  | str z =>
    obtain ⟨t, rfl⟩ := ru
    exact PySem.P.repr_of_str ⟨.str _, H, I.tok _, ⟨_, rfl⟩, q⟩ fits
  | lst _ _ =>
    cases ru
    have dd := hn.dep
    exact repr_of_reads' rr hn.sh (PyData.noDict_hsm (PyData.hasDict_of_canLay _ hn.lay)) hg (by omega) (fun _ _ e => e) (fun h' u tk kk => ⟨.str _, H, I.kept kk, ⟨_, rfl⟩, q⟩) fits
  | tup _ _ =>
    cases ru
    have dd := hn.dep
    exact repr_of_reads' rr hn.sh (PyData.noDict_hsm (PyData.hasDict_of_canLay _ hn.lay)) hg (by omega) (fun _ _ e => e) (fun h' u tk kk => ⟨.str _, H, I.kept kk, ⟨_, rfl⟩, q⟩) fits

/-! ### a def that is called where no container is being shown -/
structure FnG (P : Program) (w : World) (K : PySem.W.Frag) (mg : Str → Option Value) (base : Heap) (k : Nat) (f : Addr) (fd : FuncData) (ps : List Str) (sp : Sp) : Prop where
  many : ∀ vs H Q E, sp vs H Q E → vs.length = ps.length
  goes : ∀ (A : Around) (outer : List Env) (s : Shared) (H : Hp) (args : Args) (us : List Value) (vs : List V) (Q : VK) (E : XK), A.guards = some [] → Room k A → Env0 P w K mg base A outer s H → BindsTo s fd args (ps.zip us) → Vals vs us →
    sp vs H Q E → codeAny (model P w) A (.call (.ref f) args) (CR CX0 outer P w H s Q E) s
section
open PySem.Spec PyProof.Rows
variable {P : Program} {w : World} {K : PySem.W.Frag} {mg : Str → Option Value} {base : Heap}
/-- by its body -/
theorem fnG_by {x qual : Str} {st : Stmt} {f : Addr} {fd : FuncData} {N ps : List Str} {k : Nat} {sp : Sp} (F : C8.Fun K x qual st f fd) (sc : FnScope N ps (fnScope st)) (many : ∀ vs H Q E, sp vs H Q E → vs.length = ps.length)
    (body : ∀ (cdv : Value) (A : Around) (outer : List Env) (s : Shared) (H : Hp) (vs : List V) (Q : VK) (E : XK), A.guards = some [] → Room k (A.deeper (envOfC qual (fnScope st) s.heap.objs.size f cdv)) → sp vs H Q E →
      ∃ t, PSs (cxOf CX0 P w K mg base N qual (fnScope st) f cdv A outer s H E).nox (fnBody st) t ∧ t { nx := fun _ H1 => Q .non H1, rt := Q } (start N vs) H) : FnG P w K mg base (k + 1) f fd ps sp := by
  obtain ⟨oc, od, dV, kV, doc, pm, an, cdv, ct, osl, rfl, atF, code⟩ := F.ex
  constructor
  · exact many
  · intro A outer s H args us vs Q E gu room e0 binds rel asked
    have n := many _ _ _ _ asked
    have kept : ∀ b o, base.get? b = some o → s.heap.get? b = some o := fun b o e => (e0.bs b o e).1
    have inK := e0.mod.kin.keeps kept
    have local' : ∀ y ∈ ps.zip us, (fnScope st).names.lookup y.1 = some .local ∨ ((fnScope st).names.lookup y.1 = some .cell ∧ ((cellsFrom (s.heap.objs.size + 1) (fnScope st).names []).lookup y.1).isSome = true) := by
      rintro ⟨nm, v⟩ mem
      exact (sc.par nm (List.of_mem_zip mem).1).imp id fun c => ⟨c, PySem.W.cellsFrom_some _ _ _ (.inl c)⟩
    refine codeAny_call_function room.depth (inK _ _ atF) rfl sc.co sc.gen rfl (PySem.W.codeRec_of inK code) (binds _ _ _ _ (wpAny_newFunctionEnv_cells sc.kind local' fun env eqE s1 made => ?_))
    cases eqE
    refine ⟨(e0.mod.nolimit.keeps kept).keeps made.toInCall.keep, codeAny_func ?_⟩
    obtain ⟨t, hold, ask⟩ := body cdv A outer s H vs Q E gu (room.deeper _) asked
    refine wpAny_mono (hold.nox.run [] s1 (start N vs) H _ (inv_start sc room.hd e0 n rel made) ask) (fun fl s2 got => ?_) fun _ _ z => z
    cases fl
    case ret u =>
      obtain ⟨v, _, H1, J, rv, q⟩ := got
      exact ⟨v, H1, J.os, J.bare, J.base, J.hok, rv, q⟩
    case next =>
      obtain ⟨_, H1, J, q⟩ := got
      exact ⟨V.non, H1, J.os, J.bare, J.base, J.hok, rfl, q⟩
    case brk =>
      obtain ⟨_, _, _, q⟩ := got
      exact q.elim
    case cont =>
      obtain ⟨_, _, _, q⟩ := got
      exact q.elim
end

/-! ### the end: the law's own def, called with the script -/
section
open PySem.Spec PyProof.Rows
theorem are_vals : ∀ {us : List Value} {ns : List Int}, IntsAre us ns → Vals (ns.map V.int) us
  | _, _, .nil => .nil
  | _, _, .cons _ t r => .cons ⟨t, rfl⟩ (are_vals r)
theorem lawG_end {P : Program} {w : World} {K : PySem.W.Frag} {mg mb : Str → Option Value} {k : Nat} {fa a : Addr} {fd : FuncData} {x : Str} {sp : Sp} {s₁ : Shared} {us : List Value} {ns : List Int}
    (inK : K.In s₁.heap) (gl : s₁.heap.Ns mainGlobals mg) (bl : s₁.heap.Ns builtinsNs mb) (boot : ∀ y : Str, y ≠ "__name__" → mb y = bootBuiltins y) (lim : s₁.heap.NoLimit) (gens : s₁.gens = #[])
    (at_a : s₁.heap.get? a = some { cls := .type "list", data := .seq us.toArray }) (are : IntsAre us ns) (few : ns.length ≤ sizeLine) (room : Room k callerA)
    (F : ∀ base : Heap, K.In base → base.Ns mainGlobals mg → FnG P w K mg base k fa fd [x] sp) (binds : ∀ (s : Shared) (u : Value), BindsTo s fd ⟨[u], []⟩ [(x, u)])
    (asked : ∀ H : Hp, SqL K H a (ns.map V.int) → sp [.ref a] H (fun v _ => v = .bl true) fun _ _ _ => False) :
    codeAny (model P w) callerA (.call (.ref fa) ⟨[.ref a], []⟩) (fun r s' => r = .ok (.ret (.bool true)) ∧ OldK s₁.heap s'.heap ∧ s'.os = s₁.os ∧ AllBare s'.gens) s₁ := by
  have rel := are_vals are
  have n_us := are.length
  suffices core : ∀ H : Hp, (∀ b u, H b = some u → b = a ∧ u = .frz { cls := .type "list", data := .seq us.toArray } (.lst (ns.map V.int)) ∧ K.lookup a = none) → SqL K H a (ns.map V.int) →
      codeAny (model P w) callerA (.call (.ref fa) ⟨[.ref a], []⟩) (fun r s' => r = .ok (.ret (.bool true)) ∧ OldK s₁.heap s'.heap ∧ s'.os = s₁.os ∧ AllBare s'.gens) s₁ by
    cases inF : K.lookup a with
    | some o =>
      have same := inK a o inF
      rw [at_a] at same
      cases same
      refine core (fun _ => none) (fun b u z => by cases z) (.inr ⟨_, us.toArray, _, inF, rfl, rfl, rfl, ?_, ?_⟩)
      · rw [List.size_toArray, n_us]
        exact few
      · rw [List.toList_toArray]
        exact rel
    | none =>
      refine core (fun b => if b = a then some (.frz { cls := .type "list", data := .seq us.toArray } (.lst (ns.map V.int))) else none) (fun b u z => ?_) (.inl (.inr ⟨_, if_pos rfl⟩))
      by_cases e : b = a
      · refine ⟨e, ?_, inF⟩
        have z' : (if b = a then some (HO.frz { cls := .type "list", data := .seq us.toArray } (.lst (ns.map V.int))) else none) = some u := z
        rw [if_pos e] at z'
        exact (Option.some.inj z').symm
      · have z' : (if b = a then some (HO.frz { cls := .type "list", data := .seq us.toArray } (.lst (ns.map V.int))) else none) = some u := z
        rw [if_neg e] at z'
        cases z'
  intro H only sq
  have keepK : K.In (hidT s₁.heap H) := fun b o e => hidT_get (inK b o e) (by
    cases q : H b with
    | none => rfl
    | some u =>
      obtain ⟨e1, _, e2⟩ := only b u q
      rw [e1, e2] at e
      cases e)
  have keepN : ∀ {b : Addr} {m : Str → Option Value}, s₁.heap.Ns b m → (hidT s₁.heap H).Ns b m := by
    rintro b m ⟨o, es, ep, e, d, r⟩
    refine ⟨o, es, ep, hidT_get e ?_, d, r⟩
    cases q : H b with
    | none => rfl
    | some u =>
      obtain ⟨e1, _, _⟩ := only b u q
      rw [e1, at_a] at e
      cases e
      cases d
  have ok : HOk P w H s₁.heap := by
    intro b u q
    obtain ⟨rfl, rfl, _⟩ := only b u q
    exact ⟨at_a, (by rw [List.length_map]; exact few), us, _, rel, at_a⟩
  have start : Env0 P w K mg (hidT s₁.heap H) callerA [] s₁ H := by
    refine ⟨rfl, ⟨keepK, keepN gl, ⟨mb, keepN bl, boot⟩, ?_⟩, fun b o e => of_hidT e, Nat.le_of_eq (hidT_size _ _), trivial, fun b hb => ?_, ok, .of_eq gens⟩
    · obtain ⟨mc, h1, h2⟩ := lim
      exact ⟨mc, keepN h1, h2⟩
    · cases hb
  refine codeAny_mono ((F _ keepK (keepN gl)).goes callerA [] s₁ H ⟨[.ref a], []⟩ [.ref a] [.ref a] _ _ rfl room start (binds s₁ (.ref a)) (.cons rfl .nil) (asked H sq)) fun r s' got => ?_
  match r, got with
  | .error _, got => exact False.elim got
  | .ok .next, got => exact False.elim got
  | .ok .brk, got => exact False.elim got
  | .ok .cont, got => exact False.elim got
  | .ok (.ret u), got =>
    obtain ⟨v, H2, os, bare, un, ok2, ru, q⟩ := got
    have q' : v = .bl true := q
    rw [q'] at ru
    have eu : u = Value.bool true := ru
    refine ⟨by rw [eu], OldK.of_keep fun b o e => ?_, os, bare⟩
    cases z : H b with
    | none => exact un.keep b o e z (fun y => by cases y) (fun y => by cases y)
    | some y =>
      obtain ⟨rfl, rfl, _⟩ := only b y z
      rw [at_a] at e
      cases e
      exact (ok2 _ _ (un.frzs _ _ _ z)).1
/-- the goal that k_head leaves, from the law's promise -/
theorem walkG {l : PySem.W.OpenLaw} {k : Nat} {q : Program} {loose : List Str} {XP : (Str → Option Value) → Heap → Prop} {YP : World → Heap → Prop} {d : DefRec} {K : Params → PySem.W.Frag} {sp : PySem.W.Frag → Sp} {x : Str}
    (most : l.most = some 63) (noDflt : d.params.defaults = []) (room : Room k callerA) (inK : ∀ (w : World) (h : Heap), YP w h → (K w.params).In h)
    (F : ∀ (w : World) (mg : Str → Option Value) (fa : Addr) (h : Heap), (K w.params).In h → h.Ns mainGlobals mg → mg d.name = some (.ref fa) →
      ∃ fd : FuncData, (∀ (s : Shared) (u : Value), BindsTo s fd ⟨[u], []⟩ [(x, u)]) ∧ ∀ base : Heap, (K w.params).In base → base.Ns mainGlobals mg → FnG l.prog w (K w.params) mg base k fa fd [x] (sp (K w.params)))
    (asked : ∀ (K : PySem.W.Frag) (H : Hp) (a : Addr) (ns : List Int), ns.length ≤ 63 → SqL K H a (ns.map V.int) → sp K [.ref a] H (fun v _ => v = .bl true) fun _ _ _ => False) :
    PySem.W.WalkO q loose XP YP l.row.toRowW d [] (fun g us => PySem.call g us) := by
  refine Att.attach_call most noDflt fun w s₀ s₁ mg mb fa o pm cd doc a us ns G Y _ _ _ named obj are few gens => ?_
  have KX := inK w _ Y
  obtain ⟨fd, binds, hF⟩ := F w mg fa _ KX G.T.g named
  exact lawG_end KX G.T.g G.T.b G.T.builtins G.T.nolimit gens obj are (Nat.le_trans few (by decide)) room hF binds fun H sq => asked (K w.params) H a ns few sq
end

/-! ### () * k is () itself -/
section
open PySem.Spec PyProof.Rows
theorem mul_of_empty (l : Addr) (n : Nat) (dd : Option Addr) (sl : Array (Option Value)) (x : Int) (u : Tok) (small : (decide (x < -(2 ^ 63)) || decide (x ≥ 2 ^ 63)) = false) :
    Meets (Builtin.«tuple.__mul__» ⟨[.ref l, .int x u], []⟩) (fun _ R s => s.heap.get? l = some { cls := .type "tuple", dict := dd, data := .seq #[] n, slots := sl } ∧ R (.ok (.ret (Value.ref l))) s) :=
  .of_wp fun _ _ _ _ s h => by
    obtain ⟨heap, gs, dr, tk, os⟩ := s
    obtain ⟨look, fin⟩ := h
    have f1 := AutoSeq1.idx_int
    (wp_walk using wpAny_loadPart' look)
    repeat (first
      | (refine wpAny_ite_false (decide_eq_false (by rw [small]; exact Bool.false_ne_true)) ?_; (wp_walk using wpAny_loadPart' look))
      | (refine wpAny_ite_true (decide_eq_true rfl) ?_; (wp_walk using wpAny_loadPart' look)))
    exact ⟨_, rfl, fin⟩
def rRep0 (K : PySem.W.Frag) : R2 := fun x y H Q => ∃ (l : Addr) (k : Int), x = .ref l ∧ y = .int k ∧ SqT K H l [] ∧ 2 ≤ k ∧ k ≤ 1000 ∧ Q (.ref l) H
theorem op_rep0 {X : Cx} : OpR X (binaryOp .Mult) (rRep0 X.K) := by
  intro pins s σ H x y v u Q I rx ry given
  obtain ⟨l, k, rfl, rfl, hT, h1, h2, q⟩ := given
  cases rx
  obtain ⟨t, rfl⟩ := ry
  obtain ⟨_, r, ⟨⟨cl, dd, da, sl⟩, ho, hc, n, hd⟩, _⟩ := I.tuple hT
  cases r
  simp only at hc hd
  subst hc hd
  have small : (decide (k < -(2 ^ 63)) || decide (k ≥ 2 ^ 63)) = false := by
    rw [decide_eq_false (by omega), decide_eq_false (by omega), Bool.or_false]
  exact wpAny_binaryOp_repeat_ref (T := "tuple") (U := "int") (by decide) ⟨_, ho, rfl⟩ (fun s' => typeIs_int s' k t) noFill_tuple_mul F.fills_int_mul F.slot_int_rmul repeat_tuple F.slot_int_index.lookup
    (call_meets F.slot_int_rmul (typeIs_int s k t) F.entry_int_rmul (F.args_int_rmul_2 _ _) (int_rmul_tuple k t l #[] n dd sl)
      ⟨ho, rfl, ⟨_, ho, rfl⟩, call_meets F.slot_tuple_mul ⟨_, ho, rfl⟩ F.entry_tuple_mul (F.args_tuple_mul_2 _ _) (mul_of_empty l n dd sl k t small) ⟨ho, .ref l, H, I, rfl, q⟩⟩)
end
theorem rep_words (n : Nat) (ns : List Nat) : (List.replicate n ((iN ns).map V.int)).flatten = (iN (List.replicate n ns).flatten).map V.int := by
  induction n with
  | zero => rfl
  | succ n ih =>
    rw [List.replicate_succ, List.flatten_cons, ih, List.replicate_succ, List.flatten_cons]
    unfold iN
    rw [List.map_append, List.map_append]

/-! ### data that is a tuple -/
theorem Tp.tup_inv {H : Hp} {v : V} {ds : List PyData} (h : Tp H v (.tuple ds)) : ∃ a xs, v = .ref a ∧ H a = some (.tup xs) ∧ TpAll H xs ds := by
  cases h with
  | tup h hs => exact ⟨_, _, rfl, h, hs⟩
theorem Tp.int_inv {H : Hp} {v : V} {i : Int} (h : Tp H v (.int i)) : v = .int i := by
  cases h
  rfl
theorem Tp.str_inv {H : Hp} {v : V} {z : Str} (h : Tp H v (.str z)) : v = .str z := by
  cases h
  rfl
theorem Tp.non_inv {H : Hp} {v : V} (h : Tp H v .none) : v = .non := by
  cases h
  rfl
theorem tpAll_strs {H : Hp} : ∀ {ts : List Str} {xs : List V}, TpAll H xs (ts.map .str) → xs = ts.map V.str
  | [], _, .nil => rfl
  | z :: r, _, .cons h hs => by rw [h.str_inv, tpAll_strs hs, List.map_cons]
theorem tpAll_ints {H : Hp} : ∀ {ns : List Int} {xs : List V}, TpAll H xs (ns.map .int) → xs = ns.map V.int
  | [], _, .nil => rfl
  | z :: r, _, .cons h hs => by rw [h.int_inv, tpAll_ints hs, List.map_cons]
theorem tpAll_parts {H : Hp} : ∀ {r : Rc} {xs : List V}, TpAll H xs (r.map Pt.d) → xs = r.map Pt.v
  | [], _, .nil => rfl
  | .s z :: r, _, .cons h hs => by rw [h.str_inv, tpAll_parts hs, List.map_cons]; rfl
  | .b i :: r, _, .cons h hs => by rw [h.int_inv, tpAll_parts hs, List.map_cons]; rfl
theorem Same.put {H H' : Hp} {q : Addr} {o : HO} (s : Same H H') (hq : H q = none) : Same H (upd H' q o) := fun b u e => by
  rw [upd_ne (ne_of_none e hq)]
  exact s b u e
/-- one part of a row of data that is a map -/
theorem TpAll.at {H : Hp} {α : Type} {g : α → PyData} {vs : List V} {l : List α} {i : Nat} {x : α} (h : TpAll H vs (l.map g)) (e : l[i]? = some x) : ∃ v, vs[i]? = some v ∧ Tp H v (g x) :=
  h.get (by rw [List.getElem?_map, e]; rfl)
theorem take_map_more {α β : Type} {l : List α} {g : α → β} {i : Nat} {x : α} (h : l[i]? = some x) : (l.take (i + 1)).map g = (l.take i).map g ++ [g x] := by
  rw [List.take_add_one, h, List.map_append]
  rfl
theorem ix_tupK {X : Cx} (K : PySem.W.Frag) (h : X.K = K := by rfl) : IxR X (rIxT K) := by
  rw [← h]
  exact ix_tup
theorem ix_listK {X : Cx} (K : PySem.W.Frag) (h : X.K = K := by rfl) : IxR X (rIxL K) := by
  rw [← h]
  exact ix_list
theorem isiK {X : Cx} (K : PySem.W.Frag) (h : X.K = K := by rfl) : CallR X (.builtin "isinstance") (rIsi K) := by
  rw [← h]
  exact call_isi
theorem op_catAK {X : Cx} (K : PySem.W.Frag) (h : X.K = K := by rfl) : OpR X (binaryOp .Add) (rCatA K) := by
  rw [← h]
  exact op_catA
theorem iN_app (a : List Nat) (j : Nat) : (iN (a ++ [j])).map V.int = (iN a).map V.int ++ [.int j] := by
  unfold iN
  rw [List.map_append, List.map_append]
  rfl

/-! ### slices and sums of tuples as data; texts times a number; what may be a list or a tuple -/
theorem cut_take (xs : List V) (k : Nat) (h : k ≤ xs.length) : cutV xs none (some (k : Int)) = xs.take k := by
  unfold cutV
  rw [HT.sIx_none, HT.sIx_nat, List.drop_zero, Nat.sub_zero, Nat.min_eq_left h]
theorem cut_drop (xs : List V) (k : Nat) (h : k ≤ xs.length) : cutV xs (some (k : Int)) none = xs.drop k := by
  unfold cutV
  rw [HT.sIx_none, HT.sIx_nat, Nat.min_eq_left h]
  exact List.take_of_length_le (by rw [List.length_drop]; exact Nat.le_refl _)
theorem TpAll.take {H : Hp} : ∀ {vs : List V} {ds : List PyData} (k : Nat), TpAll H vs ds → TpAll H (vs.take k) (ds.take k)
  | _, _, 0, _ => .nil
  | _, _, _ + 1, .nil => .nil
  | _, _, k + 1, .cons h hs => .cons h (TpAll.take k hs)
theorem TpAll.drop {H : Hp} : ∀ {vs : List V} {ds : List PyData} (k : Nat), TpAll H vs ds → TpAll H (vs.drop k) (ds.drop k)
  | _, _, 0, h => h
  | _, _, _ + 1, .nil => .nil
  | _, _, k + 1, .cons _ hs => TpAll.drop k hs
/-- t[:k] -/
theorem sl_take {K : PySem.W.Frag} {H : Hp} {x : V} {ds : List PyData} {k : Nat} {Q : VK} (hx : Tp H x (.tuple ds)) (hk : k ≤ ds.length) (h : ∀ (v : V) H', Same H H' → Tp H' v (.tuple (ds.take k)) → Q v H') : rSlA K x none (some (k : Int)) H Q := by
  obtain ⟨a, xs, rfl, h1, h2⟩ := hx.tup_inv
  have hk' : k ≤ xs.length := by rw [h2.len]; exact hk
  refine ⟨a, xs, rfl, SqT.of h1, fun ⟨_, e⟩ => ?_, fun _ p hp => ?_⟩
  · rw [HT.sIx_nat, Nat.min_eq_left hk'] at e
    refine h _ _ (Same.refl H) (.tup h1 ?_)
    rw [List.take_of_length_le (by rw [← h2.len, e]; exact Nat.le_refl _)]
    exact h2
  · refine h _ _ (same_new hp) (.tup upd_same ?_)
    rw [cut_take xs k hk']
    exact (h2.take k).mono (tk_new hp)
/-- t[k:] -/
theorem sl_drop {K : PySem.W.Frag} {H : Hp} {x : V} {ds : List PyData} {k : Nat} {Q : VK} (hx : Tp H x (.tuple ds)) (hk : k ≤ ds.length) (h : ∀ (v : V) H', Same H H' → Tp H' v (.tuple (ds.drop k)) → Q v H') : rSlA K x (some (k : Int)) none H Q := by
  obtain ⟨a, xs, rfl, h1, h2⟩ := hx.tup_inv
  have hk' : k ≤ xs.length := by rw [h2.len]; exact hk
  refine ⟨a, xs, rfl, SqT.of h1, fun ⟨e, _⟩ => ?_, fun _ p hp => ?_⟩
  · rw [HT.sIx_nat, Nat.min_eq_left hk'] at e
    refine h _ _ (Same.refl H) (.tup h1 ?_)
    rw [e, List.drop_zero]
    exact h2
  · refine h _ _ (same_new hp) (.tup upd_same ?_)
    rw [cut_drop xs k hk']
    exact (h2.drop k).mono (tk_new hp)
/-- t + u -/
theorem cat_tp {K : PySem.W.Frag} {H : Hp} {x y : V} {ds es : List PyData} {Q : VK} (hx : Tp H x (.tuple ds)) (hy : Tp H y (.tuple es)) (n1 : ds.length ≤ 10000) (n2 : es.length ≤ 10000) (h : ∀ (v : V) H', Same H H' → Tp H' v (.tuple (ds ++ es)) → Q v H') : rCatA K x y H Q := by
  obtain ⟨a, xs, rfl, h1, h2⟩ := hx.tup_inv
  obtain ⟨b, ys, rfl, g1, g2⟩ := hy.tup_inv
  have e1 := h2.len
  have e2 := g2.len
  refine ⟨a, b, xs, ys, rfl, rfl, SqT.of h1, SqT.of g1, Nat.le_trans (show xs.length + ys.length ≤ 20000 by omega) (by decide), fun z => ?_, fun _ z => ?_, fun _ _ p hp => ?_⟩
  · subst z
    cases h2
    exact h _ _ (Same.refl H) (.tup g1 g2)
  · subst z
    cases g2
    refine h _ _ (Same.refl H) (.tup h1 ?_)
    rw [List.append_nil]
    exact h2
  · exact h _ _ (same_new hp) (.tup upd_same ((h2.app g2).mono (tk_new hp)))
theorem sl_tupAK {X : Cx} (K : PySem.W.Frag) (h : X.K = K := by rfl) : SlR X (rSlA K) := by
  rw [← h]
  exact sl_tupA
/-- one sign, so often -/
def rowOf (c : Nat) (n : Nat) : Str := ⟨(List.replicate n c).toArray⟩
theorem rowOf_len (c n : Nat) : (rowOf c n).length = n := by
  show (List.replicate n c).toArray.size = n
  rw [List.size_toArray, List.length_replicate]
theorem rowOf_low {c n : Nat} (h : 97 ≤ c ∧ c ≤ 122) : ∀ z ∈ (rowOf c n).cps.toList, 97 ≤ z ∧ z ≤ 122 := by
  intro z hz
  have hz' : z ∈ List.replicate n c := hz
  rw [List.eq_of_mem_replicate hz']
  exact h
theorem rep_sign (c : Nat) : ∀ (n : Nat) (acc : Array Nat), (List.replicate n #[c]).foldl (· ++ ·) acc = acc ++ (List.replicate n c).toArray
  | 0, acc => by
    show acc = acc ++ #[]
    rw [Array.append_empty]
  | n + 1, acc => by
    rw [List.replicate_succ, List.foldl_cons, rep_sign c n]
    refine Array.toList_inj.mp ?_
    rw [Array.toList_append, Array.toList_append, Array.toList_append, List.replicate_succ, List.append_assoc]
    rfl
def rMulS : R2 := fun x y H Q => ∃ (c : Nat) (n : Nat), x = .str ⟨#[c]⟩ ∧ y = .int n ∧ 2 ≤ n ∧ n ≤ 100000 ∧ Q (.str (rowOf c n)) H
section
open PySem.Spec PyProof.Rows
theorem op_mulS {X : Cx} : OpR X (binaryOp .Mult) rMulS := by
  intro pins s σ H x y v u Q I rx ry given
  obtain ⟨c, n, rfl, rfl, n2, big, q⟩ := given
  obtain ⟨t, rfl⟩ := rx
  obtain ⟨t2, rfl⟩ := ry
  have one : ((⟨#[c]⟩ : Str).length) = 1 := rfl
  refine PySem.P.mul_str ?_ (fun _ _ => ?_) (fun _ _ => ?_) ?_
  · rw [decide_eq_false (by omega), decide_eq_false (by omega)]
    rfl
  · rw [one]
    have h1 : (1 : Int) ≤ (2 ^ 63 - 1) / (n : Int) := (Int.le_ediv_iff_mul_le (by omega)).mpr (by omega)
    exact Int.not_lt.mpr h1
  · rw [one, Nat.one_mul, Int.toNat_natCast]
    unfold Builtin.Str.tooLong
    exact decide_eq_false (Nat.not_lt.mpr (Nat.le_trans big (by decide)))
  · have e1 : ¬ (n : Int) < 1 := by omega
    have e2 : ((n : Int) == 1 || (⟨#[c]⟩ : Str).length == 0) = false := by
      rw [one, Bool.or_eq_false_iff]
      exact ⟨beq_eq_false_iff_ne.mpr (by omega), rfl⟩
    rw [if_neg e1, if_neg (by rw [e2]; exact Bool.false_ne_true), Int.toNat_natCast]
    have e3 : (⟨(List.replicate n (⟨#[c]⟩ : Str).cps).foldl (· ++ ·) #[]⟩ : Str) = rowOf c n := by
      refine Str.ext' ?_
      show (List.replicate n #[c]).foldl (· ++ ·) #[] = (List.replicate n c).toArray
      rw [rep_sign, Array.empty_append]
    rw [e3]
    refine ⟨?_, .str _, H, I.tok _, ⟨_, rfl⟩, q⟩
    rw [rowOf_len]
    exact Nat.le_trans big (by decide)
/-- a walk over what is a list or a tuple -/
theorem pi_any {X : Cx} {tg l : Expr} {tl : TE} (h : PE X l tl) : PI X tg l (fun σ H R => iList X.K tl σ H R ∨ iTup X.K tl σ H R) :=
  ⟨fun pins s σ H R I q => q.elim (fun z => (pi_list (tg := tg) h).run pins s σ H R I z) (fun z => (pi_tup (tg := tg) h).run pins s σ H R I z)⟩
end
/-- a walk over a tuple, whatever is done with the items -/
theorem walk_tup {K : PySem.W.Frag} {a : Addr} {xs : List V} {body : V → Hp → (Hp → Prop) → Prop} {H0 : Hp} {Qd : Hp → Prop} (Pv : Nat → Hp → Prop) (h0 : Pv 0 H0) (hl : ∀ i H, i ≤ xs.length → Pv i H → SqT K H a xs)
    (hs : ∀ i x H, xs[i]? = some x → Pv i H → body x H (Pv (i + 1))) (hd : ∀ H, Pv xs.length H → Qd H) :
    ∃ W : Nat → Nat → Hp → Prop, (∃ m, W 0 m H0) ∧ ∀ i m H, W i m H → ((Itt K a).stop i H ∧ Qd H) ∨ ((Itt K a).go i H ∧ ∃ Nx : Hp → Prop, (∀ H', Nx H' → ∃ m', m' < m ∧ W (i + 1) m' H') ∧ ∀ x H', (Itt K a).yld i H x H' → body x H' Nx) := by
  refine ⟨fun i m H => m = xs.length - i ∧ i ≤ xs.length ∧ Pv i H, ⟨xs.length, rfl, Nat.zero_le _, h0⟩, fun i m H ⟨em, hi, p⟩ => ?_⟩
  have at_a := hl i H hi p
  rcases Nat.lt_or_eq_of_le hi with lt | eq
  · refine .inr ⟨⟨xs, xs[i], at_a, List.getElem?_eq_getElem lt⟩, Pv (i + 1), fun H' p' => ⟨xs.length - (i + 1), by omega, rfl, lt, p'⟩, fun x H' y => ?_⟩
    obtain ⟨e, y⟩ := y
    rw [e]
    exact hs i x H (y xs at_a) p
  · refine .inl ⟨⟨xs, at_a, Nat.le_of_eq eq.symm⟩, hd H ?_⟩
    rw [← eq]
    exact p

/-! ### a walk over a text -/
theorem for_str {x : Str} {g : TG} {tb : TS} {D : Ends} {σ : L2.St} {H : Hp} (Pv : Nat → L2.St → Hp → Prop) (h0 : Pv 0 σ H)
    (hs : ∀ i c σ H, x.cps.toList[i]? = some c → Pv i σ H → g (.str ⟨#[c]⟩) σ H fun σ2 H2 => tb { D with nx := Pv (i + 1), ct := Pv (i + 1), bk := D.nx } σ2 H2) (hd : ∀ σ H, Pv x.length σ H → D.nx σ H) :
    ∃ W : Nat → Nat → L2.St → Hp → Prop, (∃ m, W 0 m σ H) ∧ ∀ i m σ H, W i m σ H →
      ((Its x).stop i H ∧ D.nx σ H) ∨ ((Its x).go i H ∧ ∃ N : L2.St → Hp → Prop, (∀ σ' H', N σ' H' → ∃ m', m' < m ∧ W (i + 1) m' σ' H') ∧ ∀ v H', (Its x).yld i H v H' → g v σ H' fun σ2 H2 => tb { D with nx := N, ct := N, bk := D.nx } σ2 H2) := by
  refine ⟨fun i m σ H => m = x.length - i ∧ i ≤ x.length ∧ Pv i σ H, ⟨x.length, rfl, Nat.zero_le _, h0⟩, ?_⟩
  rintro i m σ H ⟨em, le, p⟩
  rcases Nat.lt_or_eq_of_le le with lt | eq
  · refine .inr ⟨lt, Pv (i + 1), fun σ' H' p' => ⟨x.length - (i + 1), by omega, rfl, lt, p'⟩, fun v H' y => ?_⟩
    obtain ⟨e, c, hc, ev⟩ := y
    rw [e, ev]
    exact hs i c σ H (by rw [Array.getElem?_toList]; exact hc) p
  · refine .inl ⟨Nat.le_of_eq eq.symm, hd σ H ?_⟩
    rw [← eq]
    exact p

/-! ### texts as numbers by 29 -/
def numL : List Nat → Nat
  | [] => 0
  | c :: r => (c - 96) + 29 * numL r
def lowL (cs : List Nat) : Prop := ∀ c ∈ cs, 97 ≤ c ∧ c ≤ 122
theorem numL_app : ∀ a b : List Nat, numL (a ++ b) = numL a + 29 ^ a.length * numL b
  | [], b => by
    show numL b = 0 + 29 ^ 0 * numL b
    rw [Nat.pow_zero, Nat.one_mul, Nat.zero_add]
  | c :: r, b => by
    show (c - 96) + 29 * numL (r ++ b) = (c - 96) + 29 * numL r + 29 ^ (r.length + 1) * numL b
    rw [numL_app r b, Nat.mul_add, Nat.pow_succ, Nat.mul_comm (29 ^ r.length) 29, Nat.mul_assoc, Nat.add_assoc]
theorem numL_lt : ∀ {cs : List Nat}, lowL cs → numL cs < 29 ^ cs.length
  | [], _ => by decide
  | c :: r, h => by
    have h1 := h c List.mem_cons_self
    have h2 := numL_lt (cs := r) fun x hx => h x (List.mem_cons_of_mem _ hx)
    show (c - 96) + 29 * numL r < 29 ^ (r.length + 1)
    rw [Nat.pow_succ]
    omega
/-- the text of a number of so many digits -/
def textL : Nat → Nat → Option (List Nat)
  | 0, _ => some []
  | k + 1, n => if n = 0 then some [] else if 1 ≤ n % 29 ∧ n % 29 ≤ 26 then (textL k (n / 29)).map fun r => (96 + n % 29) :: r else none
theorem textL_zero : ∀ k : Nat, textL k 0 = some []
  | 0 => rfl
  | _ + 1 => rfl
theorem textL_num : ∀ {cs : List Nat} {k : Nat}, lowL cs → cs.length ≤ k → textL k (numL cs) = some cs
  | [], k, _, _ => textL_zero k
  | c :: r, 0, _, h => absurd h (by simp)
  | c :: r, k + 1, hl, hk => by
    have h1 := hl c List.mem_cons_self
    have h2 := textL_num (cs := r) (k := k) (fun x hx => hl x (List.mem_cons_of_mem _ hx)) (Nat.le_of_succ_le_succ hk)
    have e1 : numL (c :: r) % 29 = c - 96 := by
      show ((c - 96) + 29 * numL r) % 29 = c - 96
      rw [Nat.add_mul_mod_self_left]
      exact Nat.mod_eq_of_lt (by omega)
    have e2 : numL (c :: r) / 29 = numL r := by
      show ((c - 96) + 29 * numL r) / 29 = numL r
      rw [Nat.add_mul_div_left _ _ (by decide), Nat.div_eq_of_lt (by omega), Nat.zero_add]
    have e3 : numL (c :: r) ≠ 0 := by
      show (c - 96) + 29 * numL r ≠ 0
      omega
    unfold textL
    rw [if_neg e3, e1, if_pos ⟨by omega, by omega⟩, e2, h2]
    show some ((96 + (c - 96)) :: r) = some (c :: r)
    rw [show 96 + (c - 96) = c by omega]
/-- more room changes nothing -/
theorem textL_more : ∀ {k n : Nat}, n < 29 ^ k → textL (k + 1) n = textL k n
  | 0, n, h => by
    obtain rfl : n = 0 := by omega
    rfl
  | k + 1, n, h => by
    by_cases h0 : n = 0
    · subst h0
      rw [textL_zero, textL_zero]
    · have q : textL (k + 1) (n / 29) = textL k (n / 29) := textL_more (Nat.div_lt_of_lt_mul (by rw [Nat.pow_succ, Nat.mul_comm] at h; exact h))
      rw [textL, if_neg h0, q]
      conv => rhs; rw [textL, if_neg h0]
theorem numL_take {cs : List Nat} {i : Nat} {c : Nat} (h : cs[i]? = some c) : numL (cs.take (i + 1)) = numL (cs.take i) + 29 ^ i * (c - 96) := by
  have lt : i < cs.length := (List.getElem?_eq_some_iff.mp h).1
  rw [List.take_add_one, h, numL_app, List.length_take, Nat.min_eq_left (Nat.le_of_lt lt)]
  show numL (cs.take i) + 29 ^ i * ((c - 96) + 29 * 0) = _
  rw [Nat.mul_zero, Nat.add_zero]
def spNumbered : Sp := fun vs H Q _ => ∃ z : Str, vs = [.str z] ∧ lowL z.cps.toList ∧ z.length ≤ 100000 ∧ ∀ (t : Addr) H', Same H H' → H' t = some (.tup [.int (numL z.cps.toList : Nat), .int (29 ^ z.length : Nat)]) → Q (.ref t) H'
theorem sc_numbered : FnScope ["text", "number", "size", "letter"] ["text"] (fnScope st_law_numbered) := fnScope_by (by decide +kernel)
section
variable {P : Program} {w : World} {K : PySem.W.Frag} {mg : Str → Option Value} {base : Heap} {f : Addr} {fd : FuncData}
theorem cal_numbered (F : C8.Def K mg "_law_numbered" st_law_numbered f fd) (b : Binds K fd ["text"] []) (Bo : mg "ord" = none) : Cal P w K mg base 1 "_law_numbered" spNumbered [] := by
  refine cal0 F b .nil sc_numbered (fun vs H Q E h => ?_) (fun cdv A outer s H vs Q E hr h => ?_)
  · obtain ⟨z, rfl, _⟩ := h
    rfl
  · obtain ⟨z, rfl, hl, hz, k⟩ := h
    refine ⟨_, pss_cons (ps_asg (pe_tup (pa_cons pe_int (pa_cons pe_int pa_nil))) (pg_tup rfl (pgs_cons (pg_name (i := 1) sc_numbered.nd rfl (Or.inl rfl)) (pgs_cons (pg_name (i := 2) sc_numbered.nd rfl (Or.inl rfl)) pgs_nil))))
      (pss_cons (ps_for PassesOwn.never rfl (pi_str (pv 0)) (pg_name (i := 3) sc_numbered.nd rfl (Or.inl rfl))
        (pss_cons (ps_set (i := 1) sc_numbered.nd rfl (Or.inl rfl) (pe_op op_add (pv 1) (pe_op op_mul (pv 2) (pe_op op_sub (pe_callB call_ord (by rfl) Bo (by decide +kernel) (pa_cons (pv 3) pa_nil)) pe_int))))
        (pss_one (ps_set (i := 2) sc_numbered.nd rfl (Or.inl rfl) (pe_op op_mul (pv 2) pe_int)))))
      (pss_one (ps_ret (pe_tup (pa_cons (pv 1) (pa_cons (pv 2) pa_nil)))))), ?_⟩
    refine ⟨(by show 2 ≤ sizeLine; decide), fun t0 ht0 => ⟨t0, _, rfl, SqT.of upd_same, rfl, _, _, rfl, _, _, rfl, rfl, ?_⟩⟩
    have s0 := same_new (o := .tup [.int 0, .int 1]) ht0
    generalize upd H t0 (.tup [.int 0, .int 1]) = H0 at s0 ⊢
    refine ⟨_, rfl, z, rfl, for_str (x := z) (fun i σ H' => H' = H0 ∧ ∃ v3 : Option V, σ = [some (.str z), some (.int (numL (z.cps.toList.take i) : Nat)), some (.int (29 ^ i : Nat)), v3]) ⟨rfl, _, rfl⟩ ?_ ?_⟩
    · rintro i c σ H1 hc ⟨rfl, v3, rfl⟩
      have c1 := hl c (List.mem_of_getElem? hc)
      refine ⟨_, rfl, _, rfl, _, rfl, _, rfl, rfl, _, _, rfl, rfl, _, _, rfl, rfl, .inr ⟨?_, ?_⟩, _, _, rfl, rfl, _, rfl, _, _, rfl, rfl, .inr ⟨by decide, by decide⟩, rfl, some (.str ⟨#[c]⟩), ?_⟩
      · show -(2 ^ 64) < ((c : Nat) : Int) - 96
        omega
      · show ((c : Nat) : Int) - 96 < 2 ^ 64
        omega
      · have e1 : ((numL (z.cps.toList.take i) : Nat) : Int) + ((29 ^ i : Nat) : Int) * (((c : Nat) : Int) - 96) = ((numL (z.cps.toList.take (i + 1)) : Nat) : Int) := by
          rw [numL_take hc, Int.natCast_add, Int.natCast_mul]
          congr 2
          omega
        have e2 : ((29 ^ i : Nat) : Int) * 29 = ((29 ^ (i + 1) : Nat) : Int) := by
          rw [Nat.pow_succ, Int.natCast_mul]
          rfl
        rw [← e1, ← e2]
        rfl
    · rintro σ H1 ⟨rfl, v3, rfl⟩
      refine ⟨_, rfl, _, rfl, (by show 2 ≤ sizeLine; decide), fun t ht => k t _ (Same.trans s0 (same_new ht)) ?_⟩
      rw [upd_same]
      have e : z.cps.toList.take z.length = z.cps.toList := List.take_of_length_le (by rw [Array.length_toList]; exact Nat.le_refl _)
      rw [e]
end

/-! ### drawn texts and numbers -/
def abc3 : List Str := ["abcdefghijklmnopqrstuvwxyz", "az", "abyz"]
theorem abc3_low : ∀ z ∈ abc3, 0 < z.length ∧ z.length < 1000 ∧ ∀ c ∈ z.cps.toList, 97 ≤ c ∧ c ≤ 122 := by decide +kernel
def spLet29 : Sp := fun vs H Q _ => ∃ (p c : Addr) (m : Nat), vs = [.ref p, .int m] ∧ Pen H p c ∧ m < 900 ∧ ∀ (z : Str) H', Tx m z → Kp p c H H' → Q (.str z) H'
theorem sc_let29 : FnScope ["pen", "most", "letters", "lap"] ["pen", "most"] (fnScope st_law_letters) := fnScope_by (by decide +kernel)
def spFigures : Sp := fun vs H Q _ => ∃ (p c : Addr), vs = [.ref p] ∧ Pen H p c ∧ ∀ (n : Nat) H', n < 29 ^ 54 → Kp p c H H' → Q (.int n) H'
theorem sc_figures : FnScope ["pen", "found", "lap", "digit"] ["pen"] (fnScope st_law_figures) := fnScope_by (by decide +kernel)
section
variable {P : Program} {w : World} {K : PySem.W.Frag} {mg : Str → Option Value} {base : Heap} {f : Addr} {fd : FuncData}
theorem cal_let29 (F : C8.Def K mg "_law_letters" st_law_letters f fd) (b : Binds K fd ["pen", "most"] []) (B : BN mg) (Cd : Cal P w K mg base 2 "_law_draw" spDraw []) (Co : Cal P w K mg base 3 "_law_one_of" (spOne K) []) : Cal P w K mg base 4 "_law_letters" spLet29 [] := by
  refine cal0 F b .nil sc_let29 (fun vs H Q E h => ?_) (fun cdv A outer s H vs Q E hr h => ?_)
  · obtain ⟨p, c, m, rfl, _⟩ := h
    rfl
  · obtain ⟨p, c, m, rfl, hP, m9, k⟩ := h
    refine ⟨_, pss_cons (ps_set (i := 2) sc_let29.nd rfl (Or.inr rfl) (pe_c Co hr (by decide) (by rfl) (pa_cons (pv 0) (pa_cons (pe_lst (pa_cons pe_str (pa_cons pe_str (pa_cons pe_str pa_nil)))) pa_nil))))
      (pss_one (ps_ret (pe_join pe_str (pe_lc (own := [("lap", 3)]) (g := gName 3) (tt := tYes) (by rfl) sc_let29.nd (pi_range1 rfl B.range (pa_cons (pe_c Cd hr (by decide) (by rfl) (pa_cons (pv 0) (pa_cons (pe_op op_add (pv 1) pe_int) pa_nil))) pa_nil))
        (blkOk_by (own := [("lap", 3)]) (N := ["pen", "most", "letters", "lap"]) (sc := fnScope st_law_letters) (by decide +kernel)) (fun _ _ _ _ _ => pg_name (i := 3) sc_let29.nd rfl (Or.inl rfl)) (fun _ _ _ _ _ => pts_nil)
        (fun _ _ _ _ _ => pe_c Co hr (by decide) (by rfl) (pa_cons (pv 0) (pa_cons (pv 2) pa_nil))))))), ?_⟩
    refine ⟨_, rfl, (by show 3 ≤ sizeLine; decide), fun a ha => ⟨p, c, hP.new ha, .inl ⟨a, _, rfl, hP.ne ha, SqL.of upd_same, by decide, by decide, fun x H1 hx k1 => ?_⟩⟩⟩
    obtain ⟨z, hz, rfl⟩ : ∃ z ∈ abc3, x = V.str z := by
      have hx' : x ∈ abc3.map V.str := hx
      obtain ⟨z, h1, h2⟩ := List.mem_map.mp hx'
      exact ⟨z, h1, h2.symm⟩
    obtain ⟨z0, z1, z2⟩ := abc3_low z hz
    have kA : Kp p c H H1 := (Kp.new (Kp.rfl' hP) ha).trans k1
    refine ⟨⟨_, rfl⟩, ?_⟩
    refine ⟨_, rfl, _, rfl, _, _, rfl, rfl, p, c, _, rfl, kA.pen, by omega, log_small (by omega) (by omega), fun d H2 d0 d1 k2 => ?_⟩
    have kB : Kp p c H H2 := kA.trans k2
    refine ⟨d, rfl, by omega, by omega, fun D hD => ?_⟩
    refine lc_range (lo := 0) (n := d.toNat) (fun i H' => Kp p c H H' ∧ ∃ ys : List Str, H' D = some (.lst (ys.map V.str)) ∧ H D = none ∧ ys.length = i ∧ ∀ y ∈ ys, y.length = 1 ∧ ∀ c ∈ y.cps.toList, 97 ≤ c ∧ c ≤ 122)
      ⟨kB.new hD, [], upd_same, kB.free hD, rfl, fun y hy => (by cases hy)⟩ ?_ ?_
    · rintro i H3 hi ⟨k3, ys, hL, hD0, hl, hy⟩
      refine ⟨rfl, ?_⟩
      refine ⟨_, rfl, _, rfl, p, c, k3.pen, .inr ⟨z, rfl, z0, z1, fun g H4 hg k4 => ?_⟩⟩
      have nD : D ≠ p := hP.ne hD0
      refine ⟨_, k4.but _ _ nD hL, ?_, (k3.trans k4).put hP hD0, ys ++ [⟨#[g]⟩], ?_, hD0, ?_, ?_⟩
      · rw [List.length_map]
        exact Nat.lt_of_lt_of_le (show ys.length < 1000 by omega) (by decide)
      · rw [upd_same, List.map_append]
        rfl
      · rw [List.length_append, hl]
        rfl
      · intro y hm
        rcases List.mem_append.mp hm with hm | hm
        · exact hy y hm
        · obtain rfl := List.mem_singleton.mp hm
          exact ⟨rfl, fun c' hc' => by
            obtain rfl : c' = g := by simpa using hc'
            exact z2 _ hg⟩
    · rintro H3 ⟨k3, ys, hL, hD0, hl, hy⟩
      have e1 : (Txt.join "" ys).length = ys.length := by rw [join_len, lens_one ys fun y hy' => (hy y hy').1]
      refine ⟨_, D, ys, rfl, rfl, .inl (SqL.of hL), ?_, k _ _ ⟨by rw [e1]; omega, fun c' hc' => ?_⟩ k3⟩
      · rw [lens_one ys fun y hy' => (hy y hy').1]
        have e0 : (("" : Str)).length = 0 := by decide
        rw [e0]
        omega
      · rw [join_cps] at hc'
        obtain ⟨l, h1, h2⟩ := List.mem_flatten.mp hc'
        obtain ⟨y, h3, rfl⟩ := List.mem_map.mp h1
        exact (hy y h3).2 _ h2
theorem cal_figures (F : C8.Def K mg "_law_figures" st_law_figures f fd) (b : Binds K fd ["pen"] []) (B : BN mg) (Cd : Cal P w K mg base 2 "_law_draw" spDraw []) : Cal P w K mg base 3 "_law_figures" spFigures [] := by
  refine cal0 F b .nil sc_figures (fun vs H Q E h => ?_) (fun cdv A outer s H vs Q E hr h => ?_)
  · obtain ⟨p, c, rfl, _⟩ := h
    rfl
  · obtain ⟨p, c, rfl, hP, k⟩ := h
    refine ⟨_, pss_cons (ps_set (i := 1) sc_figures.nd rfl (Or.inl rfl) (pe_op op_add pe_int (pe_c Cd hr (by decide) (by rfl) (pa_cons (pv 0) (pa_cons pe_int pa_nil)))))
      (pss_cons (ps_for PassesOwn.never rfl (pi_range1 rfl B.range (pa_cons (pe_c Cd hr (by decide) (by rfl) (pa_cons (pv 0) (pa_cons pe_int pa_nil))) pa_nil)) (pg_name (i := 2) sc_figures.nd rfl (Or.inl rfl))
        (pss_cut (ps_set (i := 3) sc_figures.nd rfl (Or.inl rfl) (pe_ifExp (pt_cmpR op_eq (pe_c Cd hr (by decide) (by rfl) (pa_cons (pv 0) (pa_cons pe_int pa_nil))) pe_int (nomark _)) (pe_c Cd hr (by decide) (by rfl) (pa_cons (pv 0) (pa_cons pe_int pa_nil)))
            (pe_op op_add pe_int (pe_c Cd hr (by decide) (by rfl) (pa_cons (pv 0) (pa_cons pe_int pa_nil))))))
        (pss_one (ps_set (i := 1) sc_figures.nd rfl (Or.inl rfl) (pe_op op_add (pe_op op_mul (pv 1) pe_int) (pv 3))))))
      (pss_one (ps_ret (pv 1)))), ?_⟩
    refine ⟨_, rfl, p, c, 28, rfl, hP, by decide, by decide, fun d H1 d0 d1 k1 => ⟨_, _, rfl, rfl, ?_⟩⟩
    obtain ⟨n0, hn0⟩ : ∃ n : Nat, 1 + d = (n : Int) := ⟨(1 + d).toNat, by omega⟩
    refine ⟨_, rfl, p, c, 54, rfl, k1.pen, by decide, by decide, fun e H2 e0 e1 k2 => ⟨e, rfl, by omega, by omega, for_range (n := e.toNat) (fun i σ H' => Kp p c H H' ∧ ∃ (n : Nat) (v2 v3 : Option V), σ = [some (.ref p), some (.int n), v2, v3] ∧ n < 29 ^ (i + 1)) ⟨k1.trans k2, n0, none, none, ?_, ?_⟩ ?_ ?_⟩⟩
    · show [some (V.ref p), some (V.int (1 + d)), none, none] = _
      rw [hn0]
    · show n0 < 29
      omega
    · rintro i σ H3 hi ⟨k3, n, v2, v3, rfl, hn⟩
      refine ⟨fun σ H' => Kp p c H H' ∧ ∃ (g : Nat), σ = [some (.ref p), some (.int n), some (.int (0 + (i : Int))), some (.int g)] ∧ g < 29, ?_, ?_⟩
      · refine ⟨_, rfl, p, c, 12, rfl, k3.pen, by decide, by decide, fun a H4 a0 a1 k4 => ⟨rfl, _, rfl, ite2 (fun _ => ?_) (fun _ => ?_)⟩⟩
        · refine ⟨_, rfl, p, c, 29, rfl, k4.pen, by decide, by decide, fun g H5 g0 g1 k5 => ⟨k3.trans (k4.trans k5), g.toNat, ?_, by omega⟩⟩
          show [some (V.ref p), some (V.int n), some (V.int (0 + (i : Int))), some (V.int g)] = _
          rw [Int.toNat_of_nonneg g0]
        · refine ⟨_, rfl, p, c, 26, rfl, k4.pen, by decide, by decide, fun g H5 g0 g1 k5 => ⟨_, _, rfl, rfl, k3.trans (k4.trans k5), (1 + g).toNat, ?_, by omega⟩⟩
          show [some (V.ref p), some (V.int n), some (V.int (0 + (i : Int))), some (V.int (1 + g))] = _
          rw [Int.toNat_of_nonneg (show 0 ≤ 1 + g by omega)]
      · rintro σ H4 ⟨k4, g, rfl, hg⟩
        refine ⟨_, rfl, _, _, rfl, rfl, .inr ⟨by decide, by decide⟩, _, rfl, _, _, rfl, rfl, k4, n * 29 + g, some (.int (0 + (i : Int))), some (.int g), ?_, ?_⟩
        · show [some (V.ref p), some (V.int ((n : Int) * 29 + (g : Int))), some (V.int (0 + (i : Int))), some (V.int g)] = _
          rw [Int.natCast_add, Int.natCast_mul]
          rfl
        · rw [Nat.pow_succ]
          omega
    · rintro σ H3 ⟨k3, n, v2, v3, rfl, hn⟩
      refine ⟨_, rfl, k n H3 (Nat.lt_of_lt_of_le hn (Nat.pow_le_pow_right (by decide) (by omega))) k3⟩
end

/-! ### the text of a number, as the law tells it -/
def strL (cs : List Nat) : Str := ⟨cs.toArray⟩
def tvL : Option (List Nat) → V
  | none => .non
  | some cs => .str (strL cs)
def dueT (n : Int) : Option (List Nat) := if n < 0 then none else textL 60 n.toNat
theorem az_at : ∀ k < 26, (("abcdefghijklmnopqrstuvwxyz" : Str).cps.toList)[k]? = some (97 + k) := by decide +kernel
theorem strL_app (a b : List Nat) : strL a ++ strL b = strL (a ++ b) := by
  refine Str.ext' ?_
  rw [Str.cps_append]
  exact List.append_toArray a b
theorem textL_step {k m : Nat} (h : m ≠ 0) : textL (k + 1) m = if 1 ≤ m % 29 ∧ m % 29 ≤ 26 then (textL k (m / 29)).map fun r => (96 + m % 29) :: r else none := by
  rw [textL, if_neg h]
def spDue : Sp := fun vs H Q _ => ∃ n : Int, vs = [.int n] ∧ ∀ H', Same H H' → Q (tvL (dueT n)) H'
theorem sc_due : FnScope ["number", "found", "lap", "count"] ["number"] (fnScope st_law_due_text) := fnScope_by (by decide +kernel)
section
variable {P : Program} {w : World} {K : PySem.W.Frag} {mg : Str → Option Value} {base : Heap} {f : Addr} {fd : FuncData}
theorem cal_due (F : C8.Def K mg "_law_due_text" st_law_due_text f fd) (b : Binds K fd ["number"] []) (B : BN mg) : Cal P w K mg base 1 "_law_due_text" spDue [] := by
  refine cal0 F b .nil sc_due (fun vs H Q E h => ?_) (fun cdv A outer s H vs Q E hr h => ?_)
  · obtain ⟨n, rfl, _⟩ := h
    rfl
  · obtain ⟨n, rfl, k⟩ := h
    refine ⟨_, pss_cons (ps_if (pt_cmpR op_lt (pv 0) pe_int (nomark _)) (pss_one (ps_ret pe_non)) pss_nil)
      (pss_cons (ps_set (i := 1) sc_due.nd rfl (Or.inl rfl) pe_str)
      (pss_cons (ps_for PassesOwn.never rfl (pi_range1 rfl B.range (pa_cons pe_int pa_nil)) (pg_name (i := 2) sc_due.nd rfl (Or.inl rfl))
        (pss_one (ps_if (pt_cmpR op_gt (pv 0) pe_int (nomark _))
          (pss_cons (ps_set (i := 3) sc_due.nd rfl (Or.inl rfl) (pe_op op_mod (pe_callTy call_int1 (by rfl) B.int (by decide +kernel) (pa_cons (pv 0) pa_nil)) pe_int))
          (pss_cons (ps_if (pt_not (pt_chain op_le op_le pe_int (pv 3) pe_int)) (pss_one (ps_ret pe_non)) pss_nil)
          (pss_cons (ps_set (i := 1) sc_due.nd rfl (Or.inl rfl) (pe_op op_add_str (pv 1) (pe_ix ix_str pe_str (pe_op op_sub (pv 3) pe_int) (fun _ _ => rfl))))
          (pss_one (ps_set (i := 0) sc_due.nd rfl (Or.inl rfl) (pe_op op_fdiv (pe_callTy call_int1 (by rfl) B.int (by decide +kernel) (pa_cons (pv 0) pa_nil)) pe_int)))))) pss_nil)))
      (pss_one (ps_ret (pv 1))))), ?_⟩
    refine ⟨_, rfl, _, _, rfl, rfl, _, rfl, ite2 (fun c0 => ?_) (fun c0 => ?_)⟩
    · have e : dueT n = none := if_pos (of_decide_eq_true c0)
      have q := k H (Same.refl H)
      rw [e] at q
      exact q
    · have n0 : ¬ n < 0 := fun z => c0 (decide_eq_true z)
      have en : dueT n = textL 60 n.toNat := if_neg n0
      refine ⟨60, rfl, by decide, by decide, for_range (n := 60) (fun i σ H' => H' = H ∧ ∃ (m : Nat) (zs : List Nat) (v2 v3 : Option V), σ = [some (.int m), some (.str (strL zs)), v2, v3] ∧ zs.length ≤ i ∧ textL 60 n.toNat = (textL (60 - i) m).map (zs ++ ·)) ⟨rfl, n.toNat, [], none, none, ?_, Nat.le_refl _, ?_⟩ ?_ ?_⟩
      · show [some (V.int n), some (V.str ""), none, none] = [some (V.int (n.toNat : Nat)), some (V.str (strL [])), none, none]
        rw [Int.toNat_of_nonneg (by omega)]
        rfl
      · show textL 60 n.toNat = (textL 60 n.toNat).map fun r => [] ++ r
        cases textL 60 n.toNat <;> rfl
      · rintro i σ H1 hi ⟨rfl, m, zs, v2, v3, rfl, zl, ev⟩
        refine ⟨_, rfl, _, _, rfl, rfl, _, rfl, ite2 (fun c1 => ?_) (fun c1 => ?_)⟩
        · have m0 : m ≠ 0 := by
            have := of_decide_eq_true c1
            omega
          obtain ⟨j, hj⟩ : ∃ j, 60 - i = j + 1 := ⟨59 - i, by omega⟩
          have hj2 : 60 - (i + 1) = j := by omega
          rw [hj, textL_step m0] at ev
          have em : ((m : Nat) : Int) % 29 = ((m % 29 : Nat) : Int) := by omega
          have ed : ((m : Nat) : Int) / 29 = ((m / 29 : Nat) : Int) := by omega
          refine ⟨_, rfl, .inl ⟨_, rfl, _, _, rfl, rfl, (by show (0 : Int) < 29; decide), ?_⟩⟩
          refine ⟨_, rfl, _, _, rfl, rfl, _, rfl, ?_⟩
          have bad : ¬ (1 ≤ m % 29 ∧ m % 29 ≤ 26) → Q .non H1 := fun z => by
            rw [if_neg z] at ev
            have q := k H1 (Same.refl H1)
            rw [en, ev] at q
            exact q
          refine ite2 (fun c2 => ?_) (fun c2 => ?_)
          · have c2' := of_decide_eq_true c2
            refine ⟨_, _, rfl, rfl, _, rfl, ite2 (fun c3 => ?_) (fun c3 => ?_)⟩
            · exact bad fun z => by
                have c3' : ¬ (((m : Nat) : Int) % 29 ≤ 26) := by simpa using c3
                omega
            · have c3' : ((m : Nat) : Int) % 29 ≤ 26 := by simpa using c3
              have good : 1 ≤ m % 29 ∧ m % 29 ≤ 26 := by omega
              rw [if_pos good] at ev
              have ei : ((m : Nat) : Int) % 29 - 1 = ((m % 29 - 1 : Nat) : Int) := by omega
              have hat : atI (("abcdefghijklmnopqrstuvwxyz" : Str).cps.toList) (((m : Nat) : Int) % 29 - 1) = some (96 + m % 29) := by
                rw [ei]
                refine atI_nat ?_
                rw [az_at _ (by omega)]
                congr 1
                omega
              have hlen : (strL zs).length + (⟨#[96 + m % 29]⟩ : Str).length ≤ sizeLine := by
                show zs.toArray.size + 1 ≤ sizeLine
                rw [List.size_toArray]
                exact Nat.le_trans (show zs.length + 1 ≤ 100 by omega) (by decide)
              refine ⟨_, rfl, _, rfl, _, _, rfl, rfl, _, _, 96 + m % 29, rfl, rfl, by decide, hat, _, _, rfl, rfl, hlen, _, rfl, .inl ⟨_, rfl, _, _, rfl, rfl, ⟨by decide, by decide⟩, rfl, m / 29, zs ++ [96 + m % 29], some (.int (0 + (i : Int))), some (.int (((m : Nat) : Int) % 29)), ?_, ?_, ?_⟩⟩
              · show [some (V.int (((m : Nat) : Int) / 29)), some (V.str (strL zs ++ strL [96 + m % 29])), some (V.int (0 + (i : Int))), some (V.int (((m : Nat) : Int) % 29))] = _
                rw [ed, strL_app]
              · rw [List.length_append]
                exact Nat.succ_le_succ zl
              · rw [ev, hj2, Option.map_map]
                congr 1
                funext r
                show zs ++ (96 + m % 29) :: r = zs ++ [96 + m % 29] ++ r
                rw [List.append_assoc]
                rfl
          · refine ⟨_, rfl, iteT' rfl (bad fun z => c2 (decide_eq_true ?_))⟩
            omega
        · have m0 : m = 0 := by
            by_cases z : m = 0
            · exact z
            · exact absurd (decide_eq_true (by omega)) c1
          subst m0
          refine ⟨rfl, 0, zs, _, _, rfl, Nat.le_succ_of_le zl, ?_⟩
          rw [textL_zero] at ev ⊢
          exact ev
      · rintro σ H1 ⟨rfl, m, zs, v2, v3, rfl, zl, ev⟩
        have q := k H1 (Same.refl H1)
        rw [en, ev] at q
        refine ⟨_, rfl, ?_⟩
        have e2 : tvL ((textL (60 - 60) m).map (zs ++ ·)) = .str (strL zs) := by
          show V.str (strL (zs ++ [])) = _
          rw [List.append_nil]
        rw [e2] at q
        exact q
end

/-! ### what may be shown, its numbers being great -/
structure Shw (d : PyData) : Prop where
  lay : d.canLay0 = true
  sh : d.showable = true
  dep : d.depth ≤ 50
  fits : d.shown.length ≤ sizeLine
theorem Neat.shw {k n : Nat} {d : PyData} (h : Neat k n d) (hk : k ≤ 50) (hn : n ≤ 1000000) : Shw d := ⟨h.lay, h.sh, Nat.le_trans h.dep hk, h.fits hk hn⟩
theorem log_big {i : Int} (h : i.natAbs < 10 ^ 300) : i.natAbs.log2 < 1920 := by
  by_cases h0 : i.natAbs = 0
  · rw [h0]
    decide
  · rw [Nat.log2_lt h0]
    exact Nat.lt_trans h (by decide +kernel)
theorem short_big {i : Int} (h : i.natAbs < 10 ^ 300) : PyData.intsShort 301 (.int i) = true := by
  simp only [PyData.intsShort, PyData.shown, decide_eq_true_eq]
  exact decide_eq_true (Nat.le_trans (Nat.le_of_eq (str_len _)) (int_text_length_le10 (a := i) (k := 300) (by decide) h))
theorem shw_two {i j : Int} (hi : i.natAbs < 10 ^ 300) (hj : j.natAbs < 10 ^ 300) : Shw (.tuple [.int i, .int j]) := by
  have lay : PyData.canLay0 (.tuple [.int i, .int j]) = true := by simp only [PyData.canLay0, PyData.canLayAll0, Bool.and_self]
  have short : PyData.intsShort 301 (.tuple [.int i, .int j]) = true := by
    have a := short_big hi
    have b := short_big hj
    simp only [PyData.intsShort, PyData.intsShortAll, Bool.and_eq_true] at a b ⊢
    exact ⟨a, b, trivial⟩
  have wt : PyData.weight (.tuple [.int i, .int j]) ≤ 4000 := by
    have a := log_big hi
    have b := log_big hj
    simp only [PyData.weight, PyData.weightAll]
    split <;> split <;> omega
  refine ⟨lay, ?_, by simp only [PyData.depth, PyData.depthAll]; decide, ?_⟩
  · simp only [PyData.showable, PyData.showableAll, Bool.and_eq_true, decide_eq_true_eq]
    exact ⟨log_big hi, log_big hj, trivial⟩
  · have q := PyData.shown_le 301 (by decide) _ (PyData.leavesShort_of_canLay0 301 _ lay short)
    exact Nat.le_trans q (Nat.le_trans (show (301 + 2) * PyData.weight (.tuple [.int i, .int j]) + 301 ≤ 1300000 by omega) (by decide))
def rReprS (K : PySem.W.Frag) : List V → Hp → VK → Prop := fun xs H Q => ∃ (x : V) (d : PyData), xs = [x] ∧ Dp K H x d ∧ Shw d ∧ Q (.str d.shown) H
theorem call_reprS {X : Cx} (hg : X.A.guards = some []) (hu : X.A.units + 64 < cLine) : CallR X (.builtin "repr") (rReprS X.K) := by
  intro pins s σ H xs us Q I rel h
  obtain ⟨x, d, rfl, hd, hn, q⟩ := h
  obtain ⟨u, rfl, ru⟩ := vals1 rel
  obtain ⟨as, rr⟩ := Dp.reads I d x u hd ru
  have dd := hn.dep
  cases hd
  case non =>
    cases ru
    exact PySem.P.repr_of_none ⟨.str _, H, I.tok _, ⟨_, rfl⟩, q⟩
  case bl b =>
    cases ru
    exact PySem.P.repr_of_bool ⟨.str _, H, I.tok _, ⟨_, rfl⟩, q⟩
  case int i =>
    obtain ⟨t, rfl⟩ := ru
    have sh := hn.sh
    simp only [PyData.showable, decide_eq_true_eq] at sh
    exact PySem.P.repr_of_int sh ⟨.str _, H, I.tok _, ⟨_, rfl⟩, q⟩
  case str z =>
    obtain ⟨t, rfl⟩ := ru
    exact PySem.P.repr_of_str ⟨.str _, H, I.tok _, ⟨_, rfl⟩, q⟩ hn.fits
  case lst =>
    cases ru
    exact repr_of_reads' rr hn.sh (PyData.noDict_hsm (PyData.hasDict_of_canLay _ hn.lay)) hg (by omega) (fun _ _ e => e) (fun _ _ _ kk => ⟨.str _, H, I.kept kk, ⟨_, rfl⟩, q⟩) hn.fits
  case tup =>
    cases ru
    exact repr_of_reads' rr hn.sh (PyData.noDict_hsm (PyData.hasDict_of_canLay _ hn.lay)) hg (by omega) (fun _ _ e => e) (fun _ _ _ kk => ⟨.str _, H, I.kept kk, ⟨_, rfl⟩, q⟩) hn.fits
/-! ### defs that show something, called -/
section
open PySem.Spec PyProof.Rows
structure CalG (P : Program) (w : World) (K : PySem.W.Frag) (mg : Str → Option Value) (base : Heap) (k : Nat) (x : Str) (sp : Sp) : Prop where
  ex : ∃ (f : Addr) (fd : FuncData) (ps : List Str), FnG P w K mg base k f fd ps sp ∧ mg x = some (.ref f) ∧ PySem.W.keepIn K (.ref f) = true ∧ Binds K fd ps []
theorem run_g {X : Cx} {k j : Nat} {f : Addr} {fd : FuncData} {ps : List Str} {sp : Sp} {pins : List (Addr × Obj)} {σ : L2.St} {H : Hp} {s : Shared} {Q : VK} {us : List Value} {vs : List V} (F : FnG X.prog X.w X.K X.mg X.base k f fd ps sp) (b : Binds X.K fd ps []) (gu : X.A.guards = some []) (hr : Room j X.A) (hk : k ≤ j)
    (I : Inv X pins σ H s) (r : Vals vs us) (h : sp vs H Q E0) : wpAny (model X.prog X.w) X.A (call (.ref f) us) (EP X pins σ Q) X.xe s := by
  have n : (us ++ []).length = ps.length := by
    rw [List.append_nil, ← r.length]
    exact F.many _ _ _ _ h
  have bt := b s us I.kIn n
  rw [List.append_nil] at bt
  refine wpAny_call (codeAny_mono (F.goes X.A X.stack s H ⟨us, []⟩ us vs Q E0 gu (hr.mono hk) I.env0 bt r h) fun res s' got => ?_)
  match res, got with
  | .error e, got => exact pass0 pins σ H s e s' I got
  | .ok (.ret u), got => exact I.after got
theorem pe_g {X : Cx} {k j : Nat} {x : Str} {sp : Sp} {p pos : Pos} {e : Expr} {es : List Expr} {t : TA} (c : CalG X.prog X.w X.K X.mg X.base k x sp) (gu : X.A.guards = some []) (hr : Room j X.A) (hk : k ≤ j) (hg : Gl X x) (ha : PA X (e :: es) t)
    (hdb : (x == ("__debug__" : Str)) = false := by decide) (he : starEach (e :: es) X.env = (false, eval e X.env) :: starEach es X.env := by rfl) (hpl : (backTo pos (starEach es X.env)).any (·.1) = false := by rfl) :
    PE X (.Call (.Name x p) (e :: es) [] pos) (fun σ H Q => t σ H fun vs H1 => sp vs H1 Q E0) := by
  obtain ⟨f, fd, ps, F, hm, kp, b⟩ := c.ex
  exact ⟨fun pins s σ H Q I h => wpAny_Call_Name_kw (ld_glob I hg hm (PySem.W.callWith_K (h₀ := X.base) I.ok.mod.kin kp (thn (ha.run pos pins s σ H _ I h) fun us s1 ⟨vs, H1, I1, r, q⟩ => ⟨I1.kIn, run_g F b gu hr hk I1 r q⟩) he hpl) hdb)⟩
theorem pe_g0 {X : Cx} {k j : Nat} {x : Str} {sp : Sp} {p pos : Pos} (c : CalG X.prog X.w X.K X.mg X.base k x sp) (gu : X.A.guards = some []) (hr : Room j X.A) (hk : k ≤ j) (hg : Gl X x) (hdb : (x == ("__debug__" : Str)) = false := by decide) :
    PE X (.Call (.Name x p) [] [] pos) (fun _ H Q => sp [] H Q E0) := by
  obtain ⟨f, fd, ps, F, hm, kp, b⟩ := c.ex
  exact ⟨fun pins s σ H Q I h => wpAny_Call_Name_kw (ld_glob I hg hm (PySem.W.callWith_K0 I.kIn kp (run_g (us := []) F b gu hr hk I .nil h)) hdb)⟩
end

/-! ### promises: the number and the size of a text -/
def spNumOf : Sp := fun vs H Q _ => ∃ z : Str, vs = [.str z] ∧ lowL z.cps.toList ∧ z.length ≤ 1000 ∧ ∀ H', Same H H' → Q (.int (numL z.cps.toList : Nat)) H'
def spSizeOf : Sp := fun vs H Q _ => ∃ z : Str, vs = [.str z] ∧ lowL z.cps.toList ∧ z.length ≤ 1000 ∧ ∀ H', Same H H' → Q (.int (29 ^ z.length : Nat)) H'

/-! ### texts and their numbers, in the law -/
def spTextOf : Sp := fun vs H Q _ => ∃ n : Int, vs = [.int n] ∧ n < 29 ^ 60 ∧ ∀ H', Same H H' → Q (tvL (dueT n)) H'
theorem same_no (z : Str) : (!decide (V.str z = V.str z)) = false := by
  rw [decide_eq_true rfl]
  rfl
theorem cat_list (x y : Str) : (x ++ y).cps.toList = x.cps.toList ++ y.cps.toList := by rw [Str.cps_append, Array.toList_append]
theorem lowL_app {a b : List Nat} (h : lowL a) (h2 : lowL b) : lowL (a ++ b) := fun c hc => (List.mem_append.mp hc).elim (h c) (h2 c)
theorem len_list (z : Str) : z.cps.toList.length = z.length := Array.length_toList
theorem num_big {z : Str} (h : lowL z.cps.toList) (hz : z.length ≤ 130) : numL z.cps.toList < 29 ^ 130 := by
  have q := numL_lt h
  rw [len_list] at q
  exact Nat.lt_of_lt_of_le q (Nat.pow_le_pow_right (by decide) hz)
theorem pow_big {n : Nat} (hz : n ≤ 130) : 29 ^ n < 29 ^ 131 := Nat.pow_lt_pow_right (by decide) (by omega)
theorem abs_nat (n : Nat) : ((n : Nat) : Int).natAbs = n := Int.natAbs_natCast n
theorem shw_num {z : Str} (h : lowL z.cps.toList) (hz : z.length ≤ 130) : Shw (.tuple [.int (numL z.cps.toList : Nat), .int (29 ^ z.length : Nat)]) := by
  refine shw_two ?_ ?_
  · rw [abs_nat]
    exact Nat.lt_trans (num_big h hz) (by decide +kernel)
  · rw [abs_nat]
    exact Nat.lt_trans (pow_big hz) (by decide +kernel)
theorem mul_wide {a b : Nat} (ha : a < 29 ^ 131) (hb : b < 29 ^ 131) : CMulW (a : Int) (b : Int) := by
  have e : 29 ^ 131 < 2 ^ 700 := by decide +kernel
  exact wide_mul (a := 700) (b := 700) (by rw [abs_nat]; exact Nat.lt_trans ha e) (by rw [abs_nat]; exact Nat.lt_trans hb e) (by decide) (by decide) (by decide)
theorem strL_list (z : Str) : strL z.cps.toList = z := Str.ext' (Array.toArray_toList)
theorem due_num {z : Str} (h : lowL z.cps.toList) (hz : z.length ≤ 60) : tvL (dueT ((numL z.cps.toList : Nat) : Int)) = .str z := by
  have e : dueT ((numL z.cps.toList : Nat) : Int) = some z.cps.toList := by
    unfold dueT
    rw [if_neg (by omega), Int.toNat_natCast]
    exact textL_num h (by rw [len_list]; exact hz)
  rw [e]
  show V.str (strL z.cps.toList) = _
  rw [strL_list]
theorem cut_list (z : Str) (lo hi : Option Int) : ∀ c ∈ (cutS z lo hi).cps.toList, c ∈ z.cps.toList := fun c hc => List.mem_of_mem_drop (List.mem_of_mem_take hc)
def spRight : Sp := fun vs H Q _ => ∃ (p c : Addr), vs = [.ref p] ∧ Pen H p c ∧ ∀ H', Kp p c H H' → Q (.bl true) H'
theorem sc_tright : FnScope ["pen", "one", "two", "text", "short"] ["pen"] (fnScope st_law_texts_right) := fnScope_by (by decide +kernel)
section
variable {P : Program} {w : World} {K : PySem.W.Frag} {mg : Str → Option Value} {base : Heap} {f : Addr} {fd : FuncData}
theorem fn_tright (F : C8.Fun K "_law_texts_right" "_law_texts_right" st_law_texts_right f fd) (Br : mg "repr" = none) (Cl : Cal P w K mg base 4 "_law_letters" spLet29 []) (Cm : Cal P w K mg base 1 "_law_numbered" spNumbered [])
    (Cn : Cal P w K mg base 3 "number_of" spNumOf []) (Cs : Cal P w K mg base 3 "size_of" spSizeOf []) (Ct : Cal P w K mg base 3 "text_of" spTextOf []) : FnG P w K mg base 5 f fd ["pen"] spRight := by
  refine fnG_by F sc_tright (fun vs H Q E h => ?_) (fun cdv A outer s H vs Q E gu hr h => ?_)
  · obtain ⟨p, c, rfl, _⟩ := h
    rfl
  · obtain ⟨p, c, rfl, hP, k⟩ := h
    refine ⟨_, pss_cons (ps_par (i := 1) (j := 2) rfl sc_tright.nd rfl rfl (by decide) rfl rfl (pa_cons (pe_c Cl hr (by decide) (by rfl) (pa_cons (pv 0) (pa_cons pe_int pa_nil))) (pa_cons (pe_c Cl hr (by decide) (by rfl) (pa_cons (pv 0) (pa_cons pe_int pa_nil))) pa_nil)) (by rfl))
      (pss_cons (ps_for PassesOwn.never rfl (pi_tup (pe_tup (pa_cons (pv 1) (pa_cons (pv 2) (pa_cons (pe_op op_add_str (pv 1) (pv 2)) pa_nil))))) (pg_name (i := 3) sc_tright.nd rfl (Or.inl rfl))
        (pss_one (ps_if (pt_cmpR op_ne (pe_callB (call_reprS gu hr.units) (by rfl) Br (by decide +kernel) (pa_cons (pe_tup (pa_cons (pe_c Cn hr (by decide) (by rfl) (pa_cons (pv 3) pa_nil)) (pa_cons (pe_c Cs hr (by decide) (by rfl) (pa_cons (pv 3) pa_nil)) pa_nil))) pa_nil))
          (pe_callB (call_reprS gu hr.units) (by rfl) Br (by decide +kernel) (pa_cons (pe_c Cm hr (by decide) (by rfl) (pa_cons (pv 3) pa_nil)) pa_nil)) (nomark _)) (pss_one (ps_ret pe_bl)) pss_nil)))
      (pss_cons (ps_if (pt_cmpR op_ne (pe_c Cn hr (by decide) (by rfl) (pa_cons (pe_op op_add_str (pv 1) (pv 2)) pa_nil))
          (pe_op op_add (pe_c Cn hr (by decide) (by rfl) (pa_cons (pv 1) pa_nil)) (pe_op op_mulW (pe_c Cs hr (by decide) (by rfl) (pa_cons (pv 1) pa_nil)) (pe_c Cn hr (by decide) (by rfl) (pa_cons (pv 2) pa_nil)))) (nomark _)) (pss_one (ps_ret pe_bl)) pss_nil)
      (pss_cons (ps_set (i := 4) sc_tright.nd rfl (Or.inl rfl) (pe_slice sl_str (pv 1) po_none (po_some pe_int)))
      (pss_one (ps_ret (pe_and (pe_cmpR op_eq (pe_c Ct hr (by decide) (by rfl) (pa_cons (pe_c Cn hr (by decide) (by rfl) (pa_cons (pv 4) pa_nil)) pa_nil)) (pv 4) (nomark _))
        (pe_one (pe_cmpR op_eq (pe_c Cs hr (by decide) (by rfl) (pa_cons (pe_op op_add_str (pv 1) (pv 2)) pa_nil)) (pe_op op_mulW (pe_c Cs hr (by decide) (by rfl) (pa_cons (pv 1) pa_nil)) (pe_c Cs hr (by decide) (by rfl) (pa_cons (pv 2) pa_nil))) (nomark _))))))))), ?_⟩
    refine ⟨_, rfl, p, c, 60, rfl, hP, by decide, fun z1 H1 t1 k1 => ⟨_, rfl, p, c, 60, rfl, k1.pen, by decide, fun z2 H2 t2 k2 => ⟨_, _, rfl, ?_⟩⟩⟩
    have kA := k1.trans k2
    have l1 : lowL z1.cps.toList := t1.low
    have l2 : lowL z2.cps.toList := t2.low
    have n1 := t1.len
    have n2 := t2.len
    have l3 : lowL (z1 ++ z2).cps.toList := by
      rw [cat_list]
      exact lowL_app l1 l2
    have n3 : (z1 ++ z2).length = z1.length + z2.length := len_cat z1 z2
    have fit3 : z1.length + z2.length ≤ sizeLine := Nat.le_trans (show z1.length + z2.length ≤ 200 by omega) (by decide)
    refine ⟨_, rfl, _, rfl, _, rfl, _, rfl, _, _, rfl, rfl, fit3, (by show 3 ≤ sizeLine; decide), fun t ht => ⟨t, rfl, ⟨_, SqT.of upd_same⟩, ?_⟩⟩
    have sT := same_new (o := .tup [V.str z1, .str z2, .str (z1 ++ z2)]) ht
    have hT : upd H2 t (.tup [V.str z1, .str z2, .str (z1 ++ z2)]) t = some (.tup [V.str z1, .str z2, .str (z1 ++ z2)]) := upd_same
    generalize upd H2 t (.tup [V.str z1, .str z2, .str (z1 ++ z2)]) = H3 at sT hT ⊢
    refine for_tup (K := K) (a := t) (xs := [V.str z1, .str z2, .str (z1 ++ z2)]) (fun i σ H' => Same H3 H' ∧ ∃ v3 : Option V, σ = [some (.ref p), some (.str z1), some (.str z2), v3, none]) ⟨Same.refl _, _, rfl⟩ (fun i σ H' _ h => SqT.of (h.1 _ _ hT)) ?_ ?_
    · rintro i x σ H4 hi ⟨s4, v3, rfl⟩
      obtain ⟨z, rfl, hl, hz⟩ : ∃ z : Str, x = .str z ∧ lowL z.cps.toList ∧ z.length ≤ 130 := by
        have m : x ∈ [V.str z1, .str z2, .str (z1 ++ z2)] := List.mem_of_getElem? hi
        have e3 : x = .str z1 ∨ x = .str z2 ∨ x = .str (z1 ++ z2) := by simpa using m
        rcases e3 with rfl | rfl | rfl
        · exact ⟨_, rfl, l1, by omega⟩
        · exact ⟨_, rfl, l2, by omega⟩
        · exact ⟨_, rfl, l3, by omega⟩
      refine ⟨_, rfl, z, rfl, hl, by omega, fun H5 s5 => ⟨_, rfl, z, rfl, hl, by omega, fun H6 s6 => ⟨(by show 2 ≤ sizeLine; decide), fun q hq => ⟨_, _, rfl, .tup (SqT.of upd_same) (.cons (.int _) (.cons (.int _) .nil)), shw_num hl hz, ?_⟩⟩⟩⟩
      refine ⟨_, rfl, z, rfl, hl, by omega, fun u H7 s7 hu => ⟨_, _, rfl, .tup (SqT.of hu) (.cons (.int _) (.cons (.int _) .nil)), shw_num hl hz, ?_⟩⟩
      refine ⟨rfl, _, rfl, iteF' (same_no _) ?_⟩
      exact ⟨Same.trans (Same.trans (Same.trans s4 (Same.trans s5 s6)) (same_new hq)) s7, _, rfl⟩
    · rintro σ H4 ⟨s4, v3, rfl⟩
      have kB : Kp p c H H4 := (kA.same sT).same s4
      refine ⟨_, rfl, _, rfl, _, _, rfl, rfl, fit3, z1 ++ z2, rfl, l3, by omega, fun H5 s5 => ⟨_, rfl, z1, rfl, l1, by omega, fun H6 s6 => ⟨_, rfl, z1, rfl, l1, by omega, fun H7 s7 => ⟨_, rfl, z2, rfl, l2, by omega, fun H8 s8 => ⟨_, _, rfl, rfl, ?_, _, _, rfl, rfl, rfl, _, rfl, iteF' ?_ ?_⟩⟩⟩⟩⟩
      · exact mul_wide (pow_big (by omega)) (Nat.lt_trans (num_big l2 (by omega)) (by decide +kernel))
      · have e : ((numL (z1 ++ z2).cps.toList : Nat) : Int) = ((numL z1.cps.toList : Nat) : Int) + ((29 ^ z1.length : Nat) : Int) * ((numL z2.cps.toList : Nat) : Int) := by
          rw [cat_list, numL_app, len_list, Int.natCast_add, Int.natCast_mul]
        rw [e, decide_eq_true rfl]
        rfl
      · have kC : Kp p c H H8 := (((kB.same s5).same s6).same s7).same s8
        have cl : lowL (cutS z1 none (some 54)).cps.toList := fun y hy => l1 y (cut_list _ _ _ y hy)
        have cn : (cutS z1 none (some 54)).length ≤ 60 := by
          have q : (cutS z1 none (some 54)).length ≤ z1.length := by
            rw [← len_list, ← len_list]
            show ((z1.cps.toList.drop _).take _).length ≤ z1.cps.toList.length
            rw [List.length_take, List.length_drop]
            omega
          omega
        refine ⟨_, rfl, _, rfl, z1, rfl, Nat.le_trans (show z1.length ≤ 100 by omega) (by decide), ?_⟩
        refine ⟨_, rfl, _, rfl, cl, by omega, fun H9 s9 => ⟨_, rfl, ?_, fun H10 s10 => ⟨_, rfl, ?_⟩⟩⟩
        · have q := numL_lt cl
          rw [len_list] at q
          have q2 := Nat.lt_of_lt_of_le q (Nat.pow_le_pow_right (by decide : 0 < 29) cn)
          exact_mod_cast q2
        · rw [due_num cl cn]
          refine ⟨rfl, _, rfl, iteT' (decide_eq_true rfl) ?_⟩
          refine ⟨_, rfl, _, rfl, _, _, rfl, rfl, fit3, z1 ++ z2, rfl, l3, by omega, fun H11 s11 => ⟨_, rfl, z1, rfl, l1, by omega, fun H12 s12 => ⟨_, rfl, z2, rfl, l2, by omega, fun H13 s13 => ⟨_, _, rfl, rfl, mul_wide (pow_big (by omega)) (pow_big (by omega)), rfl, ?_⟩⟩⟩⟩
          have e : ((29 ^ (z1 ++ z2).length : Nat) : Int) = ((29 ^ z1.length : Nat) : Int) * ((29 ^ z2.length : Nat) : Int) := by
            rw [n3, Nat.pow_add, Int.natCast_mul]
          have q := k H13 ((((((kC.same s9).same s10).same s11).same s12).same s13))
          rw [e, decide_eq_true rfl]
          exact q
end

/-! ### text[::-1] -/
def revS (z : Str) : Str := ⟨z.cps.toList.reverse.toArray⟩
section
open PySem.Spec PyProof.Rows
variable {X : Cx}
theorem pick_revS (z : Str) : (Builtin.Str.strSliceIndices none none (-1) z.length).filterMap (z.cps[·]?) = z.cps.toList.reverse := by
  have e : Builtin.Str.strSliceIndices none none (-1) z.length = (List.range z.length).reverse := by
    have h : Builtin.Str.strSliceIndices none none (-1) z.length = sliceRange ((z.length : Int) - 1) (-1) (-1) := by
      unfold Builtin.Str.strSliceIndices
      have h1 : ¬ ((-1 : Int) > 0) := by decide
      simp only [h1, if_false]
    rw [h, PySem.W.krv_sliceRange, PySem.W.krv_range]
  rw [e, List.filterMap_reverse]
  congr 1
  exact PySem.W.krv_all z.cps
def tRevS (te : TE) : TE := fun σ H Q => te σ H fun x H1 => ∃ z, x = .str z ∧ z.length ≤ sizeLine ∧ Q (.str (revS z)) H1
theorem pe_revS {e : Expr} {te : TE} {k : Nat} {p1 p2 p3 pos : Pos} (he : PE X e te) : PE X (.Subscript e (.Slice none none (some (.UnaryOp .USub (.Constant (.int 1) k p1) p2)) p3) pos) (tRevS te) := by
  refine ⟨fun pins s σ H Q I h => ?_⟩
  refine Subscript_ (thn (he.run pins s σ H _ I h) fun v s1 ⟨x, H1, I1, r1, q1⟩ => ?_)
  obtain ⟨z, ex, hz, q⟩ := q1
  subst ex
  obtain ⟨t, rfl⟩ := r1
  have hst : PO X (some (.UnaryOp .USub (.Constant (.int 1) k p1) p2)) (tPart (tUn (rU fun i => .int (-i)) (tC (.int 1)))) := po_some (pe_un un_neg pe_int)
  refine wpAny_Slice (thn (po_none.run pins s1 σ H1 (fun o H2 => o = none ∧ H2 = H1) I1 ⟨rfl, rfl⟩) fun vl s2 ⟨l, H2, I2, pl, el, e2⟩ => ?_)
  subst el e2
  refine thn (po_none.run pins s2 σ H2 (fun o H3 => o = none ∧ H3 = H2) I2 ⟨rfl, rfl⟩) fun vu s3 ⟨u, H3, I3, pu, eu, e3⟩ => ?_
  subst eu e3
  refine thn (hst.run pins s3 σ H3 (fun o H4 => o = some (-1) ∧ H4 = H3) I3 ⟨1, rfl, -1, rfl, rfl, rfl⟩) fun vs s4 ⟨o, H4, I4, ps, eo, e4⟩ => ?_
  subst eo e4
  cases pl
  cases pu
  obtain ⟨st, rfl, est⟩ := IsPart.raw ps
  have I5 : Inv X pins σ H4 { s4 with heap := s4.heap.push { cls := .type "slice", data := .fields #[.none, .none, partValue st] } } := I4.kept (t' := s4.toks) fun b ob q => Heap.get?_push_of_some _ q
  show wpAny (model X.prog X.w) X.A (subscriptTail e (.Slice none none (some (.UnaryOp .USub (.Constant (.int 1) k p1) p2)) p3) (.str z t) (.ref s4.heap.objs.size)) (EP X pins σ Q) X.xe { s4 with heap := s4.heap.push { cls := .type "slice", data := .fields #[.none, .none, partValue st] } }
  refine tail_any (ops := [.str z t, .ref s4.heap.objs.size]) (T := "str") (typeIs_str _ _ _) F.slot_str_getitem.lookup ?_ (by with_unfolding_all rfl)
  refine wpAny_getItem_str_slice (l := none) (u := none) (st := st) ⟨_, Heap.get?_push_size _ rfl, rfl, rfl⟩ (by rw [est]; rfl) ?_
  have e5 : sliceMade z t none none st = .str (revS z) := by
    unfold sliceMade slicePicked
    rw [est]
    show (if ((-1 : Int) == 1 && _) = true then Made.val (.str z t) else Made.str ⟨((Builtin.Str.strSliceIndices none none (-1) z.length).filterMap (z.cps[·]?)).toArray⟩) = _
    rw [if_neg (by intro h; rw [Bool.and_eq_true] at h; exact absurd h.1 (by decide)), pick_revS]
    rfl
  rw [e5]
  refine ⟨?_, .str _, H4, I5.tok _, ⟨_, rfl⟩, q⟩
  show z.cps.toList.reverse.toArray.size ≤ sizeLine
  rw [List.size_toArray, List.length_reverse, Array.length_toList]
  exact hz
end
/-! ### the program's numbers of texts -/
structure NB (mg : Str → Option Value) : Prop where
  base : ∃ t, mg "BASE" = some (.int 29 t)
theorem numL_rev {r : List Nat} {i c : Nat} (h : r[i]? = some c) : numL (r.take (i + 1)).reverse = (c - 96) + 29 * numL (r.take i).reverse := by
  rw [List.take_add_one, h]
  show numL (r.take i ++ [c]).reverse = _
  rw [List.reverse_append]
  rfl
theorem sq_half (s l : Nat) : s ^ l = (s * s) ^ (l / 2) * s ^ (l % 2) := by
  have e : 2 * (l / 2) + l % 2 = l := Nat.div_add_mod l 2
  have h : s ^ (2 * (l / 2) + l % 2) = (s * s) ^ (l / 2) * s ^ (l % 2) := by rw [Nat.pow_add, Nat.pow_mul, Nat.pow_two]
  rw [e] at h
  exact h
theorem odd_half {s l : Nat} (h : l % 2 = 1) : s ^ l = s * (s * s) ^ (l / 2) := by
  have q := sq_half s l
  rw [h, Nat.pow_one, Nat.mul_comm] at q
  exact q
theorem even_half {s l : Nat} (h : l % 2 = 0) : s ^ l = (s * s) ^ (l / 2) := by
  have q := sq_half s l
  rw [h, Nat.pow_zero, Nat.mul_one] at q
  exact q
theorem pow29b (n : Nat) : 29 ^ n ≤ 2 ^ (5 * n) := by
  rw [Nat.pow_mul]
  exact Nat.pow_le_pow_left (by decide) n
theorem pow29_lt {m : Nat} (h : m ≤ 30000) : 29 ^ m < 2 ^ 150001 :=
  Nat.lt_of_le_of_lt (pow29b m) (Nat.pow_lt_pow_right (by decide) (by omega))
theorem sq29 (k : Nat) : 29 ^ 2 ^ k * 29 ^ 2 ^ k = 29 ^ 2 ^ (k + 1) := by
  rw [← Nat.pow_add, Nat.pow_succ 2 k, Nat.mul_two]
theorem half_step (m k : Nat) : m / 2 ^ k / 2 = m / 2 ^ (k + 1) := by rw [Nat.div_div_eq_div_mul, Nat.pow_succ]
def spPow29 : Sp := fun vs H Q _ => ∃ m : Nat, vs = [.int 29, .int m] ∧ m ≤ 30000 ∧ ∀ H', Same H H' → Q (.int (29 ^ m : Nat)) H'
theorem sc_number_of : FnScope ["text", "total", "letter"] ["text"] (fnScope st_number_of_) := fnScope_by (by decide +kernel)
theorem sc_size_of : FnScope ["text"] ["text"] (fnScope st_size_of_) := fnScope_by (by decide +kernel)
theorem sc_power_of : FnScope ["base", "many", "power", "square", "left"] ["base", "many"] (fnScope st_power_of_) := fnScope_by (by decide +kernel)
section
variable {P : Program} {w : World} {K : PySem.W.Frag} {mg : Str → Option Value} {base : Heap} {f : Addr} {fd : FuncData}
theorem cal_number_of_ (lv : Nat) (F : C8.Def K mg "number_of" st_number_of_ f fd) (b : Binds K fd ["text"] []) (N : NB mg) (Bo : mg "ord" = none) : Cal P w K mg base (lv + 1) "number_of" spNumOf [] := by
  obtain ⟨tb, eb⟩ := N.base
  refine cal0 F b .nil sc_number_of (fun vs H Q E h => ?_) (fun cdv A outer s H vs Q E hr h => ?_)
  · obtain ⟨z, rfl, _⟩ := h
    rfl
  · obtain ⟨z, rfl, hl, hz, k⟩ := h
    refine ⟨_, pss_cons (ps_set (i := 1) sc_number_of.nd rfl (Or.inl rfl) pe_int)
      (pss_cons (ps_for PassesOwn.never rfl (pi_str (pe_revS (pv 0))) (pg_name (i := 2) sc_number_of.nd rfl (Or.inl rfl))
        (pss_one (ps_set (i := 1) sc_number_of.nd rfl (Or.inl rfl) (pe_op op_add (pe_op op_sub (pe_op op_add (pe_op op_mul (pv 1) (pe_glob (v := .int 29) rfl eb ⟨_, rfl⟩)) (pe_callB call_ord (by rfl) Bo (by decide +kernel) (pa_cons (pv 2) pa_nil))) (pe_callB call_ord (by rfl) Bo (by decide +kernel) (pa_cons pe_str pa_nil))) pe_int))))
      (pss_one (ps_ret (pv 1)))), ?_⟩
    refine ⟨_, rfl, z, rfl, Nat.le_trans hz (by decide), revS z, rfl, for_str (x := revS z) (fun i σ H' => H' = H ∧ ∃ v2 : Option V, σ = [some (.str z), some (.int (numL (z.cps.toList.reverse.take i).reverse : Nat)), v2]) ⟨rfl, _, rfl⟩ ?_ ?_⟩
    · rintro i c σ H1 hc ⟨rfl, v2, rfl⟩
      have hc' : z.cps.toList.reverse[i]? = some c := hc
      have c1 := hl c (List.mem_reverse.mp (List.mem_of_getElem? hc'))
      refine ⟨_, rfl, _, _, rfl, rfl, .inr ⟨by decide, by decide⟩, _, rfl, _, rfl, rfl, _, _, rfl, rfl, _, rfl, rfl, _, _, rfl, rfl, _, _, rfl, rfl, rfl, some (.str ⟨#[c]⟩), ?_⟩
      have e1 : ((numL (z.cps.toList.reverse.take i).reverse : Nat) : Int) * 29 + ((c : Nat) : Int) - 97 + 1 = ((numL (z.cps.toList.reverse.take (i + 1)).reverse : Nat) : Int) := by
        rw [numL_rev hc']
        omega
      rw [← e1]
      rfl
    · rintro σ H1 ⟨rfl, v2, rfl⟩
      refine ⟨_, rfl, ?_⟩
      have e : z.cps.toList.reverse.take (revS z).length = z.cps.toList.reverse := List.take_of_length_le (by show _ ≤ z.cps.toList.reverse.toArray.size; rw [List.size_toArray]; exact Nat.le_refl _)
      rw [e, List.reverse_reverse]
      exact k _ (Same.refl _)
theorem cal_power_of_ (F : C8.Def K mg "power_of" st_power_of_ f fd) (b : Binds K fd ["base", "many"] []) : Cal P w K mg base 1 "power_of" spPow29 [] := by
  refine cal0 F b .nil sc_power_of (fun vs H Q E h => ?_) (fun cdv A outer s H vs Q E hr h => ?_)
  · obtain ⟨m, rfl, _⟩ := h
    rfl
  · obtain ⟨m, rfl, hm, k⟩ := h
    refine ⟨_, pss_cons (ps_set (i := 2) sc_power_of.nd rfl (Or.inl rfl) pe_int)
      (pss_cons (ps_set (i := 3) sc_power_of.nd rfl (Or.inl rfl) (pv 0))
      (pss_cons (ps_set (i := 4) sc_power_of.nd rfl (Or.inl rfl) (pv 1))
      (pss_cons (ps_while PassesOwn.never (pt_cmpR op_gt (pv 4) pe_int (nomark _))
        (pss_cons (ps_if (pt_truth (pe_op op_odd (pv 4) pe_int) (fun _ => rfl)) (pss_one (ps_set (i := 2) sc_power_of.nd rfl (Or.inl rfl) (pe_op op_mulW (pv 2) (pv 3)))) pss_nil)
        (pss_cons (ps_set (i := 3) sc_power_of.nd rfl (Or.inl rfl) (pe_op op_mulW (pv 3) (pv 3)))
        (pss_one (ps_set (i := 4) sc_power_of.nd rfl (Or.inl rfl) (pe_op op_halfN (pv 4) pe_int))))))
      (pss_one (ps_ret (pv 2)))))), ?_⟩
    refine ⟨_, rfl, _, rfl, while_by (fun σ H' => H' = H ∧ ∃ p k : Nat, σ = [some (.int 29), some (.int m), some (.int p), some (.int (29 ^ 2 ^ k : Nat)), some (.int (m / 2 ^ k : Nat))] ∧ p * (29 ^ 2 ^ k) ^ (m / 2 ^ k) = 29 ^ m)
      (fun σ _ => match σ with | [_, _, _, _, some (.int l)] => l.toNat | _ => 0) ⟨rfl, 1, 0, ?_, ?_⟩ ?_ ?_⟩
    · show [some (V.int 29), some (V.int m), some (V.int 1), some (V.int 29), some (V.int m)] = _
      rw [Nat.pow_zero, Nat.div_one, Nat.pow_one]
      rfl
    · rw [Nat.pow_zero, Nat.div_one, Nat.pow_one, Nat.one_mul]
    · rintro σ H1 ⟨rfl, p, k2, rfl, ev⟩
      refine ⟨_, rfl, _, _, rfl, rfl, _, rfl, ite2 (fun c => ?_) (fun c => ?_)⟩
      · have l0 : 0 < m / 2 ^ k2 := by
          have := of_decide_eq_true c
          omega
        have hk : 2 ^ k2 ≤ m := by
          rcases Nat.lt_or_ge m (2 ^ k2) with z | z
          · rw [Nat.div_eq_of_lt z] at l0
            exact absurd l0 (Nat.lt_irrefl 0)
          · exact z
        have sb : 29 ^ 2 ^ k2 < 2 ^ 150001 := pow29_lt (Nat.le_trans hk hm)
        have pb : p < 2 ^ 150001 := by
          have h1 : 1 ≤ (29 ^ 2 ^ k2) ^ (m / 2 ^ k2) := Nat.pow_pos (Nat.pow_pos (by decide))
          have h2 : p ≤ p * (29 ^ 2 ^ k2) ^ (m / 2 ^ k2) := Nat.le_mul_of_pos_right p h1
          rw [ev] at h2
          exact Nat.lt_of_le_of_lt h2 (pow29_lt hm)
        have wm : ∀ {a b : Nat}, a < 2 ^ 150001 → b < 2 ^ 150001 → CMulW (a : Int) (b : Int) := fun ha hb => wide_mul (a := 150001) (b := 150001) (by rw [Int.natAbs_natCast]; exact ha) (by rw [Int.natAbs_natCast]; exact hb) (by decide) (by decide) (by decide)
        have dec : m / 2 ^ (k2 + 1) < m / 2 ^ k2 := by
          rw [← half_step]
          exact Nat.div_lt_self l0 (by decide)
        have back : ∀ p2 : Nat, p2 * (29 ^ 2 ^ (k2 + 1)) ^ (m / 2 ^ (k2 + 1)) = 29 ^ m →
            (H1 = H1 ∧ ∃ p k : Nat, ([some (.int 29), some (.int m), some (.int p2), some (.int (((29 ^ 2 ^ k2 : Nat) : Int) * ((29 ^ 2 ^ k2 : Nat) : Int))), some (.int ((m / 2 ^ k2 / 2 : Nat) : Int))] : L2.St) = [some (.int 29), some (.int m), some (.int p), some (.int (29 ^ 2 ^ k : Nat)), some (.int (m / 2 ^ k : Nat))] ∧ p * (29 ^ 2 ^ k) ^ (m / 2 ^ k) = 29 ^ m) := fun p2 h2 => by
          refine ⟨rfl, p2, k2 + 1, ?_, h2⟩
          rw [← Int.natCast_mul, sq29, half_step]
        refine ⟨_, rfl, _, rfl, rfl, _, rfl, ite2 (fun c2 => ?_) (fun c2 => ?_)⟩
        · have od : m / 2 ^ k2 % 2 = 1 := by
            have h2 : ((m / 2 ^ k2 % 2 : Nat) : Int) ≠ 0 := by simpa using c2
            omega
          refine ⟨_, rfl, _, rfl, _, _, rfl, rfl, wm pb sb, _, rfl, _, rfl, _, _, rfl, rfl, wm sb sb, _, rfl, _, rfl, rfl, ?_, ?_⟩
          · have q := back (p * 29 ^ 2 ^ k2) (by rw [← sq29, ← half_step, Nat.mul_assoc, ← odd_half od]; exact ev)
            rw [Int.natCast_mul] at q
            exact q
          · show (((m / 2 ^ k2 / 2 : Nat) : Int)).toNat < (((m / 2 ^ k2 : Nat) : Int)).toNat
            rw [Int.toNat_natCast, Int.toNat_natCast, half_step]
            exact dec
        · have ev2 : m / 2 ^ k2 % 2 = 0 := by
            have h2 : ((m / 2 ^ k2 % 2 : Nat) : Int) = 0 := by simpa using c2
            omega
          refine ⟨_, rfl, _, rfl, _, _, rfl, rfl, wm sb sb, _, rfl, _, rfl, rfl, ?_, ?_⟩
          · exact back p (by rw [← sq29, ← half_step, ← even_half ev2]; exact ev)
          · show (((m / 2 ^ k2 / 2 : Nat) : Int)).toNat < (((m / 2 ^ k2 : Nat) : Int)).toNat
            rw [Int.toNat_natCast, Int.toNat_natCast, half_step]
            exact dec
      · have l0 : m / 2 ^ k2 = 0 := by
          rcases Nat.eq_zero_or_pos (m / 2 ^ k2) with z | z
          · exact z
          · exact absurd (decide_eq_true (by omega)) c
        rw [l0, Nat.pow_zero, Nat.mul_one] at ev
        refine ⟨_, rfl, ?_⟩
        rw [ev]
        exact k _ (Same.refl _)
    · rintro σ H1 Q1 Q2 hq ⟨v, a, i, j, e1, e2, k3, ek, q⟩
      exact ⟨v, a, i, j, e1, e2, k3, ek, hq _ _ q⟩
theorem cal_size_of_ (lv : Nat) (F : C8.Def K mg "size_of" st_size_of_ f fd) (b : Binds K fd ["text"] []) (N : NB mg) (Bl : mg "len" = none) (Cp : Cal P w K mg base 1 "power_of" spPow29 []) : Cal P w K mg base (lv + 2) "size_of" spSizeOf [] := by
  obtain ⟨tb, eb⟩ := N.base
  refine cal0 F b .nil sc_size_of (fun vs H Q E h => ?_) (fun cdv A outer s H vs Q E hr h => ?_)
  · obtain ⟨z, rfl, _⟩ := h
    rfl
  · obtain ⟨z, rfl, hl, hz, k⟩ := h
    refine ⟨_, pss_one (ps_ret (pe_c Cp hr (by omega) (by rfl) (pa_cons (pe_glob (v := .int 29) rfl eb ⟨_, rfl⟩) (pa_cons (pe_callB call_len_str (by rfl) Bl PySem.boot_len (pa_cons (pv 0) pa_nil)) pa_nil)))), ?_⟩
    exact ⟨_, rfl, _, rfl, Nat.le_trans hz (by decide), _, rfl, Nat.le_trans hz (by decide), k⟩
end

/-! ### the program's text of a number -/
def oneS (c : Nat) : Str := ⟨#[c]⟩
theorem join_ones (zs : List Nat) : Txt.join "" (zs.map oneS) = strL zs := by
  refine Str.ext' (Array.toList_inj.mp ?_)
  rw [join_cps, List.map_map]
  show (zs.map fun c => [c]).flatten = zs
  induction zs with
  | nil => rfl
  | cons c r ih => rw [List.map_cons, List.flatten_cons, ih]; rfl
theorem len26 : ("abcdefghijklmnopqrstuvwxyz" : Str).length = 26 := by decide +kernel
theorem textL_div {m j : Nat} (h : m < 29 ^ (j + 1)) : m / 29 < 29 ^ j := Nat.div_lt_of_lt_mul (by rw [Nat.pow_succ, Nat.mul_comm] at h; exact h)
theorem sc_text_of : FnScope ["number", "letters", "left", "counts"] ["number"] (fnScope st_text_of_) := fnScope_by (by decide +kernel)
section
variable {P : Program} {w : World} {K : PySem.W.Frag} {mg : Str → Option Value} {base : Heap} {f : Addr} {fd : FuncData}
theorem cal_text_of_ (F : C8.Def K mg "text_of" st_text_of_ f fd) (b : Binds K fd ["number"] []) (N : NB mg) (Na : ∃ t, mg "ALPHABET" = some (.str "abcdefghijklmnopqrstuvwxyz" t)) (Bl : mg "len" = none) (Bd : mg "divmod" = none) : Cal P w K mg base 3 "text_of" spTextOf [] := by
  obtain ⟨tb, eb⟩ := N.base
  obtain ⟨ta, ea⟩ := Na
  refine cal0 F b .nil sc_text_of (fun vs H Q E h => ?_) (fun cdv A outer s H vs Q E hr h => ?_)
  · obtain ⟨n, rfl, _⟩ := h
    rfl
  · obtain ⟨n, rfl, nb, k⟩ := h
    refine ⟨_, pss_cons (ps_if (pt_cmpR op_lt (pv 0) pe_int (nomark _)) (pss_one (ps_ret pe_non)) pss_nil)
      (pss_cons (ps_set (i := 1) sc_text_of.nd rfl (Or.inl rfl) (pe_lst pa_nil))
      (pss_cons (ps_set (i := 2) sc_text_of.nd rfl (Or.inl rfl) (pv 0))
      (pss_cons (ps_while PassesOwn.never (pt_cmpR op_gt (pv 2) pe_int (nomark _))
        (pss_cons (ps_asg (pe_callB call_divmod (by rfl) Bd (by decide +kernel) (pa_cons (pv 2) (pa_cons (pe_glob (v := .int 29) rfl eb ⟨_, rfl⟩) pa_nil))) (pg_tup rfl (pgs_cons (pg_name (i := 2) sc_text_of.nd rfl (Or.inl rfl)) (pgs_cons (pg_name (i := 3) sc_text_of.nd rfl (Or.inl rfl)) pgs_nil))))
        (pss_cons (ps_if (pt_not (pt_chain op_le op_le pe_int (pv 3) (pe_callB call_len_str (by rfl) Bl PySem.boot_len (pa_cons (pe_glob (v := .str "abcdefghijklmnopqrstuvwxyz") rfl ea ⟨_, rfl⟩) pa_nil)))) (pss_one (ps_ret pe_non)) pss_nil)
        (pss_one (ps_expr (pe_bm PySem.F.plainAttrs_list PySem.F.slot_list_append PySem.F.type_list_append mt_append (pv 1) (pa_cons (pe_ix ix_str (pe_glob (v := .str "abcdefghijklmnopqrstuvwxyz") rfl ea ⟨_, rfl⟩) (pe_op op_sub (pv 3) pe_int) (fun _ _ => rfl)) pa_nil)))))))
      (pss_one (ps_ret (pe_join pe_str (pv 1))))))), ?_⟩
    refine ⟨_, rfl, _, _, rfl, rfl, _, rfl, ite2 (fun c0 => ?_) (fun c0 => ?_)⟩
    · have e : dueT n = none := if_pos (of_decide_eq_true c0)
      have q := k H (Same.refl H)
      rw [e] at q
      exact q
    · have n0 : ¬ n < 0 := fun z => c0 (decide_eq_true z)
      have en : dueT n = textL 60 n.toNat := if_neg n0
      obtain ⟨N0, rfl⟩ : ∃ N0 : Nat, n = (N0 : Int) := ⟨n.toNat, by omega⟩
      rw [Int.toNat_natCast] at en
      have nb' : N0 < 29 ^ 60 := by
        have h3 : ((29 ^ 60 : Nat) : Int) = (29 : Int) ^ 60 := by norm_cast
        rw [← h3] at nb
        exact Int.ofNat_lt.mp nb
      refine ⟨Nat.zero_le _, fun L hL => ⟨_, rfl, while_by (fun σ H' => Same H H' ∧ ∃ (m : Nat) (zs : List Nat) (v3 : Option V), σ = [some (.int N0), some (.ref L), some (.int m), v3] ∧ H' L = some (.lst ((zs.map oneS).map V.str)) ∧ zs.length ≤ 60 ∧ m < 29 ^ (60 - zs.length) ∧ textL 60 N0 = (textL (60 - zs.length) m).map (zs ++ ·))
        (fun σ _ => match σ with | [_, _, some (.int l), _] => l.toNat | _ => 0) ⟨same_new hL, N0, [], none, rfl, upd_same, Nat.zero_le _, nb', ?_⟩ ?_ ?_⟩⟩
      · show textL 60 N0 = (textL 60 N0).map fun r => [] ++ r
        cases textL 60 N0 <;> rfl
      · rintro σ H1 ⟨s1, m, zs, v3, rfl, hz, zl, mb, ev⟩
        refine ⟨_, rfl, _, _, rfl, rfl, _, rfl, ite2 (fun c1 => ?_) (fun c1 => ?_)⟩
        · have m0 : 0 < m := by
            have := of_decide_eq_true c1
            omega
          obtain ⟨j, hj⟩ : ∃ j, 60 - zs.length = j + 1 := by
            rcases Nat.eq_zero_or_pos (60 - zs.length) with z | z
            · rw [z, Nat.pow_zero] at mb
              omega
            · exact ⟨60 - zs.length - 1, by omega⟩
          rw [hj] at ev mb
          rw [textL_step (m := m) (k := j) (by omega)] at ev
          have em : ((m : Nat) : Int) % 29 = ((m % 29 : Nat) : Int) := by omega
          have ed : ((m : Nat) : Int) / 29 = ((m / 29 : Nat) : Int) := by omega
          refine ⟨_, rfl, _, _, rfl, ⟨by decide, by decide⟩, fun p hp => ⟨p, _, rfl, SqT.of upd_same, rfl, _, _, rfl, _, _, rfl, rfl, ?_⟩⟩
          have s2 := same_new (o := .tup [.int ((m : Int) / 29), .int ((m : Int) % 29)]) hp
          have hz2 := s2 _ _ hz
          have s12 := Same.trans s1 s2
          generalize upd H1 p (.tup [.int ((m : Int) / 29), .int ((m : Int) % 29)]) = H2 at s12 hz2 ⊢
          refine ⟨_, rfl, _, _, rfl, rfl, _, rfl, ?_⟩
          have bad : ¬ (1 ≤ m % 29 ∧ m % 29 ≤ 26) → Q .non H2 := fun z => by
            rw [if_neg z] at ev
            have q := k H2 s12
            rw [en, ev] at q
            exact q
          refine ite2 (fun c2 => ?_) (fun c2 => ?_)
          · have c2' := of_decide_eq_true c2
            refine ⟨_, rfl, (by rw [len26]; decide), _, _, rfl, rfl, _, rfl, ite2 (fun c3 => ?_) (fun c3 => ?_)⟩
            · exact bad fun z => by
                rw [len26] at c3
                have c3' : ¬ (((m : Nat) : Int) % 29 ≤ 26) := by simpa using c3
                omega
            · rw [len26] at c3
              have c3' : ((m : Nat) : Int) % 29 ≤ 26 := by simpa using c3
              have good : 1 ≤ m % 29 ∧ m % 29 ≤ 26 := by omega
              rw [if_pos good] at ev
              have ei : ((m : Nat) : Int) % 29 - 1 = ((m % 29 - 1 : Nat) : Int) := by omega
              have hat : atI (("abcdefghijklmnopqrstuvwxyz" : Str).cps.toList) (((m : Nat) : Int) % 29 - 1) = some (96 + m % 29) := by
                rw [ei]
                refine atI_nat ?_
                rw [az_at _ (by omega)]
                congr 1
                omega
              refine ⟨_, rfl, .inl ⟨rfl, _, SqL.of hz2⟩, _, rfl, _, _, rfl, rfl, _, _, 96 + m % 29, rfl, rfl, by decide, hat, L, _, _, rfl, rfl, hz2, ?_, ⟨Same.put s12 hL, m / 29, zs ++ [96 + m % 29], some (.int (((m : Nat) : Int) % 29)), ?_, ?_, ?_, ?_, ?_⟩, ?_⟩
              · rw [List.length_map, List.length_map]
                exact Nat.lt_of_le_of_lt zl (by decide)
              · show [some (V.int (N0 : Int)), some (V.ref L), some (V.int (((m : Nat) : Int) / 29)), some (V.int (((m : Nat) : Int) % 29))] = _
                rw [ed]
              · rw [upd_same, List.map_append, List.map_append]
                rfl
              · rw [List.length_append]
                show zs.length + 1 ≤ 60
                omega
              · rw [List.length_append]
                have e : 60 - (zs.length + [96 + m % 29].length) = j := by
                  show 60 - (zs.length + 1) = j
                  omega
                rw [e]
                exact textL_div mb
              · rw [List.length_append]
                have e : 60 - (zs.length + [96 + m % 29].length) = j := by
                  show 60 - (zs.length + 1) = j
                  omega
                rw [ev, e, Option.map_map]
                congr 1
                funext r
                show zs ++ (96 + m % 29) :: r = zs ++ [96 + m % 29] ++ r
                rw [List.append_assoc]
                rfl
              · show (((m : Nat) : Int) / 29).toNat < ((m : Nat) : Int).toNat
                omega
          · refine ⟨_, rfl, iteT' rfl (bad fun z => c2 (decide_eq_true ?_))⟩
            omega
        · have m0 : m = 0 := by
            by_cases z : m = 0
            · exact z
            · exact absurd (decide_eq_true (by omega)) c1
          subst m0
          rw [textL_zero] at ev
          have q := k H1 s1
          rw [en, ev] at q
          refine ⟨⟨_, rfl⟩, _, rfl, _, L, zs.map oneS, rfl, rfl, .inl (SqL.of hz), ?_, ?_⟩
          · rw [List.map_map]
            have e1 : (zs.map fun c => (oneS c).length).sum = zs.length := by
              have := lens_one (zs.map oneS) (fun y hy => by obtain ⟨c, _, rfl⟩ := List.mem_map.mp hy; rfl)
              rw [List.map_map, List.length_map] at this
              exact this
            have e0 : (("" : Str)).length = 0 := by decide
            have e2 : (zs.map ((·.length) ∘ oneS)).sum = zs.length := e1
            rw [e2, e0]
            omega
          · rw [join_ones]
            have e2 : tvL ((some []).map (zs ++ ·)) = .str (strL zs) := by
              show V.str (strL (zs ++ [])) = _
              rw [List.append_nil]
            rw [e2] at q
            exact q
      · rintro σ H1 Q1 Q2 hq ⟨v, a, i, j, e1, e2, k3, ek, q⟩
        exact ⟨v, a, i, j, e1, e2, k3, ek, hq _ _ q⟩
end

/-! ### the law: by hand -/
def dtL : Option (List Nat) → PyData
  | none => .none
  | some cs => .str (strL cs)
theorem textL_low : ∀ {k n : Nat} {cs : List Nat}, textL k n = some cs → lowL cs ∧ cs.length ≤ k
  | 0, n, cs, h => by
    cases h
    exact ⟨fun c hc => (by cases hc), Nat.le_refl _⟩
  | k + 1, n, cs, h => by
    unfold textL at h
    by_cases h0 : n = 0
    · rw [if_pos h0] at h
      cases h
      exact ⟨fun c hc => (by cases hc), Nat.zero_le _⟩
    · rw [if_neg h0] at h
      by_cases h1 : 1 ≤ n % 29 ∧ n % 29 ≤ 26
      · rw [if_pos h1] at h
        cases e : textL k (n / 29) with
        | none =>
          rw [e] at h
          cases h
        | some r =>
          rw [e] at h
          cases h
          obtain ⟨a, b⟩ := textL_low e
          refine ⟨fun c hc => ?_, Nat.succ_le_succ b⟩
          rcases List.mem_cons.mp hc with rfl | hc
          · omega
          · exact a c hc
      · rw [if_neg h1] at h
        cases h
theorem dp_tv {K : PySem.W.Frag} {H : Hp} : ∀ o : Option (List Nat), Dp K H (tvL o) (dtL o)
  | none => .non
  | some cs => .str _
theorem shw_due (n : Int) : Shw (dtL (dueT n)) := by
  cases e : dueT n with
  | none => exact neat_none.shw (by decide) (by decide)
  | some cs =>
    have l : lowL cs ∧ cs.length ≤ 60 := by
      unfold dueT at e
      by_cases h : n < 0
      · rw [if_pos h] at e
        cases e
      · rw [if_neg h] at e
        exact textL_low e
    have z : ∀ c ∈ (strL cs).cps.toList, 97 ≤ c ∧ c ≤ 122 := fun c hc => l.1 c hc
    refine (neat_str (low_strOk z)).shw (by decide) ?_
    show cs.toArray.size ≤ 1000000
    rw [List.size_toArray]
    omega
theorem int_at {ns : List Int} {i : Nat} {x : V} (h : (ns.map V.int)[i]? = some x) : ∃ n, ns[i]? = some n ∧ x = .int n := by
  rw [List.getElem?_map] at h
  cases e : ns[i]? with
  | none =>
    rw [e] at h
    cases h
  | some n =>
    rw [e] at h
    exact ⟨n, rfl, (Option.some.inj h).symm⟩
/-- a text, so often -/
def repS (z : Str) (n : Nat) : Str := ⟨(List.replicate n z.cps).foldl (· ++ ·) #[]⟩
theorem fold_size (a : Array Nat) : ∀ (n : Nat) (acc : Array Nat), ((List.replicate n a).foldl (· ++ ·) acc).size = acc.size + n * a.size
  | 0, acc => by rw [Nat.zero_mul]; rfl
  | n + 1, acc => by
    rw [List.replicate_succ, List.foldl_cons, fold_size a n, Array.size_append, Nat.succ_mul]
    omega
theorem repS_len (z : Str) (n : Nat) : (repS z n).length = n * z.length := by
  have q := fold_size z.cps n #[]
  exact q.trans (Nat.zero_add _)
def rMulT : R2 := fun x y H Q => ∃ (z : Str) (n : Nat), x = .str z ∧ y = .int n ∧ 2 ≤ n ∧ n ≤ 1000 ∧ 1 ≤ z.length ∧ z.length ≤ 1000 ∧ Q (.str (repS z n)) H
section
open PySem.Spec PyProof.Rows
theorem op_mulT {X : Cx} : OpR X (binaryOp .Mult) rMulT := by
  intro pins s σ H x y v u Q I rx ry given
  obtain ⟨z, n, rfl, rfl, n2, big, z1, z2, q⟩ := given
  obtain ⟨t, rfl⟩ := rx
  obtain ⟨t2, rfl⟩ := ry
  have mm : n * z.length ≤ 1000 * 1000 := Nat.mul_le_mul big z2
  have tn : z.length * ((n : Nat) : Int).toNat = n * z.length := by rw [Int.toNat_natCast, Nat.mul_comm]
  refine PySem.P.mul_str ?_ (fun _ _ => ?_) (fun _ _ => ?_) ?_
  · rw [decide_eq_false (by omega), decide_eq_false (by omega)]
    rfl
  · have h1 : (z.length : Int) ≤ (2 ^ 63 - 1) / (n : Int) := (Int.le_ediv_iff_mul_le (by omega)).mpr (by
      have e : ((z.length : Nat) : Int) * (n : Int) = ((n * z.length : Nat) : Int) := by rw [Int.natCast_mul, Int.mul_comm]
      rw [e]
      omega)
    exact Int.not_lt.mpr h1
  · unfold Builtin.Str.tooLong
    rw [tn]
    exact decide_eq_false (Nat.not_lt.mpr (Nat.le_trans mm (by decide)))
  · have e1 : ¬ (n : Int) < 1 := by omega
    have e2 : ((n : Int) == 1 || z.length == 0) = false := by
      rw [Bool.or_eq_false_iff]
      exact ⟨beq_eq_false_iff_ne.mpr (by omega), beq_eq_false_iff_ne.mpr (by omega)⟩
    rw [if_neg e1, if_neg (by rw [e2]; exact Bool.false_ne_true), Int.toNat_natCast]
    refine ⟨?_, .str _, H, I.tok _, ⟨_, rfl⟩, q⟩
    have q2 := repS_len z n
    show (repS z n).length ≤ sizeLine
    rw [q2]
    exact Nat.le_trans mm (by decide)
end
theorem dpAll_tv {K : PySem.W.Frag} {H : Hp} : ∀ l : List Int, DpAll K H (l.map fun n => tvL (dueT n)) (l.map fun n => dtL (dueT n))
  | [] => .nil
  | n :: r => .cons (dp_tv _) (dpAll_tv r)
instance lowL_dec (cs : List Nat) : Decidable (lowL cs) := inferInstanceAs (Decidable (∀ c ∈ cs, 97 ≤ c ∧ c ≤ 122))
def spTrue : Sp := fun vs H Q _ => vs = [] ∧ ∀ H', Same H H' → Q (.bl true) H'
theorem sc_hand : FnScope ["told", "text", "number"] [] (fnScope st_law_hand_right) := fnScope_by (by decide +kernel)
theorem e80 : (10 : Int) ^ ((40 : Int)).toNat * 10 ^ ((40 : Int)).toNat = 10 ^ 80 := by decide +kernel
theorem m80 : CMulW ((10 : Int) ^ ((40 : Int)).toNat) (10 ^ ((40 : Int)).toNat) := by
  unfold CMulW
  decide +kernel
theorem p40 : CPow 10 40 := ⟨by decide, by decide, by decide⟩
section
variable {P : Program} {w : World} {K : PySem.W.Frag} {mg : Str → Option Value} {base : Heap} {f : Addr} {fd : FuncData}
theorem fn_hand (F : C8.Fun K "_law_hand_right" "_law_hand_right" st_law_hand_right f fd) (B : BN mg) (Br : mg "repr" = none) (Cn : Cal P w K mg base 3 "number_of" spNumOf []) (Cs : Cal P w K mg base 3 "size_of" spSizeOf []) (Ct : Cal P w K mg base 3 "text_of" spTextOf [])
    (Cu : Cal P w K mg base 1 "_law_due_text" spDue []) : FnG P w K mg base 5 f fd [] spTrue := by
  refine fnG_by F sc_hand (fun vs H Q E h => ?_) (fun cdv A outer s H vs Q E gu hr h => ?_)
  · obtain ⟨rfl, _⟩ := h
    rfl
  · obtain ⟨rfl, k⟩ := h
    refine ⟨_, pss_cons (ps_set (i := 0) sc_hand.nd rfl (Or.inl rfl) (pe_lst (pa_cons (pe_c Cn hr (by decide) (by rfl) (pa_cons pe_str pa_nil)) (pa_cons (pe_c Cs hr (by decide) (by rfl) (pa_cons pe_str pa_nil)) (pa_cons (pe_c Cn hr (by decide) (by rfl) (pa_cons pe_str pa_nil)) (pa_cons (pe_c Cs hr (by decide) (by rfl) (pa_cons pe_str pa_nil))
        (pa_cons (pe_c Cn hr (by decide) (by rfl) (pa_cons pe_str pa_nil)) (pa_cons (pe_c Cn hr (by decide) (by rfl) (pa_cons pe_str pa_nil)) pa_nil))))))))
      (pss_cons (ps_if (pt_cmpR (op_neD hr.units) (pv 0) (pe_lst (pa_cons pe_int (pa_cons pe_int (pa_cons pe_int (pa_cons pe_int (pa_cons pe_int (pa_cons pe_int pa_nil))))))) (nomark _)) (pss_one (ps_ret pe_bl)) pss_nil)
      (pss_cons (ps_setLc (i := 0) (own := [("number", 2)]) (g := gName 2) (tt := tYes) (by rfl) sc_hand.nd rfl rfl (sw_true rfl rfl rfl (by decide +kernel)) (pi_tup (pe_tup (pa_cons pe_int (pa_cons pe_int (pa_cons pe_int (pa_cons pe_int (pa_cons pe_int pa_nil)))))))
          (blkOk_by (own := [("number", 2)]) (N := ["told", "text", "number"]) (sc := fnScope st_law_hand_right) (by decide +kernel)) (fun _ _ _ _ _ => pg_name (i := 2) sc_hand.nd rfl (Or.inl rfl)) (fun _ _ _ _ _ => pts_nil)
          (fun _ _ _ _ _ => pe_c Ct hr (by decide) (by rfl) (pa_cons (pv 2) pa_nil)))
      (pss_cons (ps_if (pt_cmpR (op_neD hr.units) (pv 0) (pe_lst (pa_cons pe_str (pa_cons pe_str (pa_cons pe_str (pa_cons pe_str (pa_cons pe_str pa_nil)))))) (nomark _)) (pss_one (ps_ret pe_bl)) pss_nil)
      (pss_cons (ps_for PassesOwn.never rfl (pi_tup (pe_tup (pa_cons (pe_op op_mulT pe_str pe_int) (pa_cons (pe_op op_add_str (pe_op op_mulT pe_str pe_int) pe_str) (pa_cons (pe_op op_add_str (pe_op op_mulT pe_str pe_int) pe_str) pa_nil))))) (pg_name (i := 1) sc_hand.nd rfl (Or.inl rfl))
        (pss_one (ps_if (PW.pt (pw_or (pt_cmpR op_ne (pe_c Ct hr (by decide) (by rfl) (pa_cons (pe_c Cn hr (by decide) (by rfl) (pa_cons (pv 1) pa_nil)) pa_nil)) (pv 1) (nomark _)) (pw_or1 (pt_cmpR op_ge (pe_c Cn hr (by decide) (by rfl) (pa_cons (pv 1) pa_nil)) (pe_op op_mulW (pe_op op_pow pe_int pe_int) (pe_op op_pow pe_int pe_int)) (nomark _))))) (pss_one (ps_ret pe_bl)) pss_nil)))
      (pss_cons (ps_if (pt_cmpR (op_neD hr.units) (pe_lc (own := [("number", 2)]) (g := gName 2) (tt := tYes) (by rfl) sc_hand.nd (pi_tup (pe_tup (pa_cons (pe_op op_sub pe_int (pe_op op_mulW (pe_op op_pow pe_int pe_int) (pe_op op_pow pe_int pe_int))) (pa_cons (pe_un un_neg pe_int) pa_nil))))
          (blkOk_by (own := [("number", 2)]) (N := ["told", "text", "number"]) (sc := fnScope st_law_hand_right) (by decide +kernel)) (fun _ _ _ _ _ => pg_name (i := 2) sc_hand.nd rfl (Or.inl rfl)) (fun _ _ _ _ _ => pts_nil)
          (fun _ _ _ _ _ => pe_c Ct hr (by decide) (by rfl) (pa_cons (pv 2) pa_nil))) (pe_lst (pa_cons pe_non (pa_cons pe_non pa_nil))) (nomark _)) (pss_one (ps_ret pe_bl)) pss_nil)
      (pss_cons (ps_if (pt_cmpR op_ne (pe_callB (call_reprS gu hr.units) (by rfl) Br (by decide +kernel) (pa_cons (pe_c Ct hr (by decide) (by rfl) (pa_cons (pe_op op_sub (pe_op op_mulW (pe_op op_pow pe_int pe_int) (pe_op op_pow pe_int pe_int)) pe_int) pa_nil)) pa_nil))
          (pe_callB (call_reprS gu hr.units) (by rfl) Br (by decide +kernel) (pa_cons (pe_c Cu hr (by decide) (by rfl) (pa_cons (pe_op op_sub (pe_op op_mulW (pe_op op_pow pe_int pe_int) (pe_op op_pow pe_int pe_int)) pe_int) pa_nil)) pa_nil)) (nomark _)) (pss_one (ps_ret pe_bl)) pss_nil)
      (pss_one (ps_ret (pe_cmpR (op_eqD hr.units) (pe_lc (own := [("number", 2)]) (g := gName 2) (tt := tYes) (by rfl) sc_hand.nd (pi_tup (pe_tup (pa_cons pe_int (pa_cons pe_int (pa_cons pe_int (pa_cons (pe_un un_neg pe_int) (pa_cons pe_int (pa_cons pe_int pa_nil))))))))
          (blkOk_by (own := [("number", 2)]) (N := ["told", "text", "number"]) (sc := fnScope st_law_hand_right) (by decide +kernel)) (fun _ _ _ _ _ => pg_name (i := 2) sc_hand.nd rfl (Or.inl rfl)) (fun _ _ _ _ _ => pts_nil)
          (fun _ _ _ _ _ => pe_c Ct hr (by decide) (by rfl) (pa_cons (pv 2) pa_nil))) (pe_op op_rep (pe_lst (pa_cons pe_non pa_nil)) pe_int) (nomark _)))))))))), ?_⟩
    -- numbers and sizes
    have lz : ∀ z ∈ (["", "ab", "z", "aa"] : List Str), lowL z.cps.toList ∧ z.length ≤ 1000 := by decide +kernel
    obtain ⟨a1, a2⟩ := lz "" (by decide +kernel)
    obtain ⟨b1, b2⟩ := lz "ab" (by decide +kernel)
    obtain ⟨c1, c2⟩ := lz "z" (by decide +kernel)
    obtain ⟨d1, d2⟩ := lz "aa" (by decide +kernel)
    refine ⟨"", rfl, a1, a2, fun H1 s1 => ⟨"", rfl, a1, a2, fun H2 s2 => ⟨"ab", rfl, b1, b2, fun H3 s3 => ⟨"ab", rfl, b1, b2, fun H4 s4 => ⟨"z", rfl, c1, c2, fun H5 s5 => ⟨"aa", rfl, d1, d2, fun H6 s6 => ⟨(by show 6 ≤ sizeLine; decide), fun l1 hl1 => ?_⟩⟩⟩⟩⟩⟩⟩
    have s06 := Same.trans (Same.trans (Same.trans (Same.trans (Same.trans s1 s2) s3) s4) s5) s6
    refine ⟨_, rfl, (by show 6 ≤ sizeLine; decide), fun e1 he1 => ⟨_, _, .lst (SqL.of (same_new he1 _ _ upd_same)) (.cons (.int _) (.cons (.int _) (.cons (.int _) (.cons (.int _) (.cons (.int _) (.cons (.int _) .nil)))))), .lst (SqL.of upd_same) (.cons (.int _) (.cons (.int _) (.cons (.int _) (.cons (.int _) (.cons (.int _) (.cons (.int _) .nil)))))), by decide +kernel, by decide +kernel, _, rfl, iteF' (by decide +kernel) ?_⟩⟩
    have s07 := Same.trans (Same.trans s06 (same_new (o := .lst [V.int (numL ("" : Str).cps.toList : Nat), V.int (29 ^ ("" : Str).length : Nat), V.int (numL ("ab" : Str).cps.toList : Nat), V.int (29 ^ ("ab" : Str).length : Nat), V.int (numL ("z" : Str).cps.toList : Nat), V.int (numL ("aa" : Str).cps.toList : Nat)]) hl1)) (same_new (o := .lst [V.int 0, V.int 1, V.int 59, V.int 841, V.int 26, V.int 30]) he1)
    clear hl1 he1
    generalize upd (upd H6 l1 (.lst [V.int (numL ("" : Str).cps.toList : Nat), V.int (29 ^ ("" : Str).length : Nat), V.int (numL ("ab" : Str).cps.toList : Nat), V.int (29 ^ ("ab" : Str).length : Nat), V.int (numL ("z" : Str).cps.toList : Nat), V.int (numL ("aa" : Str).cps.toList : Nat)])) e1 (.lst [V.int 0, V.int 1, V.int 59, V.int 841, V.int 26, V.int 30]) = H7 at s07 ⊢
    refine ⟨(by show 5 ≤ sizeLine; decide), fun t ht => ⟨t, rfl, ⟨_, SqT.of upd_same⟩, fun D hD => ?_⟩⟩
    have sT := Same.trans s07 (same_new (o := .tup (([0, 59, 26, 30, 1] : List Int).map V.int)) ht)
    have hT : upd H7 t (.tup (([0, 59, 26, 30, 1] : List Int).map V.int)) t = some (.tup (([0, 59, 26, 30, 1] : List Int).map V.int)) := upd_same
    have hD : upd H7 t (.tup (([0, 59, 26, 30, 1] : List Int).map V.int)) D = none := hD
    show _
    refine lc_tup (K := K) (a := t) (xs := [0, 59, 26, 30, 1].map V.int) (fun g H' => Same (upd H7 t (.tup (([0, 59, 26, 30, 1] : List Int).map V.int))) H' ∧ H' D = some (.lst ((([0, 59, 26, 30, 1] : List Int).take g).map fun n => tvL (dueT n)))) ⟨same_new hD, upd_same⟩ (fun g H' _ h => SqT.of (h.1 _ _ hT)) ?_ ?_
    · rintro g x Hx hg ⟨sx, hL⟩
      obtain ⟨n, hn, rfl⟩ := int_at hg
      refine ⟨rfl, _, rfl, n, rfl, (by decide +kernel : ∀ n ∈ ([0, 59, 26, 30, 1] : List Int), n < 29 ^ 60) n (List.mem_of_getElem? hn), fun Hy sy => ⟨_, sy _ _ hL, ?_, Same.put (Same.trans sx sy) hD, by rw [upd_same, take_map_more hn]⟩⟩
      rw [List.length_map, List.length_take]
      exact Nat.lt_of_le_of_lt (Nat.min_le_right _ _) (by show ([0, 59, 26, 30, 1] : List Int).length < sizeLine; decide)
    rintro Hx ⟨sx, hL⟩
    rw [List.length_map, List.take_length] at hL
    have sH8 := Same.trans sT sx
    clear sx sT
    refine ⟨_, rfl, (by show 5 ≤ sizeLine; decide), fun e2 he2 => ⟨.list (([0, 59, 26, 30, 1] : List Int).map fun n => dtL (dueT n)), _, .lst (SqL.of (same_new he2 _ _ hL)) (dpAll_tv _), .lst (SqL.of upd_same) (.cons (.str _) (.cons (.str _) (.cons (.str _) (.cons (.str _) (.cons (.str _) .nil))))), by decide +kernel, by decide +kernel, _, rfl, iteF' (by decide +kernel) ?_⟩⟩
    have s9 := Same.trans sH8 (same_new (o := .lst [V.str "", .str "ab", .str "z", .str "aa", .str "a"]) he2)
    generalize upd Hx e2 (.lst [V.str "", .str "ab", .str "z", .str "aa", .str "a"]) = H9 at s9 ⊢
    clear he2 sH8 hL hT hD ht
    -- long texts
    refine ⟨_, 55, rfl, rfl, by decide, by decide, by decide, by decide, _, 54, rfl, rfl, by decide, by decide, by decide, by decide, _, _, rfl, rfl, by decide +kernel, _, 27, rfl, rfl, by decide, by decide, by decide, by decide, _, _, rfl, rfl, by decide +kernel, (by show 3 ≤ sizeLine; decide), fun t2 ht2 => ⟨t2, rfl, ⟨_, SqT.of upd_same⟩, ?_⟩⟩
    have sU := Same.trans s9 (same_new (o := .tup [V.str (repS "a" 55), .str (repS "z" 54 ++ "i"), .str (repS "zb" 27 ++ "a")]) ht2)
    have hU : upd H9 t2 (.tup [V.str (repS "a" 55), .str (repS "z" 54 ++ "i"), .str (repS "zb" 27 ++ "a")]) t2 = some (.tup [V.str (repS "a" 55), .str (repS "z" 54 ++ "i"), .str (repS "zb" 27 ++ "a")]) := upd_same
    generalize upd H9 t2 (.tup [V.str (repS "a" 55), .str (repS "z" 54 ++ "i"), .str (repS "zb" 27 ++ "a")]) = HU at sU hU ⊢
    have facts : ∀ z ∈ ([repS "a" 55, repS "z" 54 ++ "i", repS "zb" 27 ++ "a"] : List Str), lowL z.cps.toList ∧ z.length ≤ 60 ∧ numL z.cps.toList < 10 ^ 80 := by decide +kernel
    refine for_tup (K := K) (a := t2) (xs := [V.str (repS "a" 55), .str (repS "z" 54 ++ "i"), .str (repS "zb" 27 ++ "a")]) (fun i σ H' => Same HU H' ∧ ∃ (v0 : V) (v1 : Option V), σ = [some v0, v1, none]) ⟨Same.refl _, _, _, rfl⟩ (fun i σ H' _ h => SqT.of (h.1 _ _ hU)) ?_ ?_
    · rintro i x σ Ha hi ⟨sa, v0, v1, rfl⟩
      obtain ⟨z, rfl, hl, hz, hn⟩ : ∃ z : Str, x = .str z ∧ lowL z.cps.toList ∧ z.length ≤ 60 ∧ numL z.cps.toList < 10 ^ 80 := by
        have m : x ∈ ([repS "a" 55, repS "z" 54 ++ "i", repS "zb" 27 ++ "a"] : List Str).map V.str := List.mem_of_getElem? hi
        obtain ⟨z, h1, h2⟩ := List.mem_map.mp m
        exact ⟨z, h2.symm, facts z h1⟩
      have hn2 : ((numL z.cps.toList : Nat) : Int) < 10 ^ 80 := by exact_mod_cast hn
      refine ⟨_, rfl, z, rfl, hl, by omega, fun Hb sb => ⟨_, rfl, Int.lt_trans hn2 (by decide +kernel), fun Hc sc => ?_⟩⟩
      rw [due_num hl hz]
      refine ⟨_, rfl, rfl, _, rfl, iteF' (same_no _) ?_⟩
      refine ⟨_, rfl, z, rfl, hl, by omega, fun Hd sd => ⟨_, _, rfl, rfl, p40, _, _, rfl, rfl, p40, _, _, rfl, rfl, m80, _, _, rfl, rfl, _, rfl, iteF' (decide_eq_false ?_) ⟨Same.trans (Same.trans (Same.trans sa sb) sc) sd, _, _, rfl⟩⟩⟩
      show ¬ ((10 : Int) ^ ((40 : Int)).toNat * 10 ^ ((40 : Int)).toNat ≤ ((numL z.cps.toList : Nat) : Int))
      rw [e80]
      omega
    rintro σ HV ⟨sv, v0, v1, rfl⟩
    have s10 := Same.trans sU sv
    clear hU sv sU ht2
    -- numbers without a text
    refine ⟨_, _, rfl, rfl, p40, _, _, rfl, rfl, p40, _, _, rfl, rfl, m80, _, _, rfl, rfl, _, rfl, (by show 2 ≤ sizeLine; decide), fun t ht => ⟨t, rfl, ⟨_, SqT.of upd_same⟩, fun D hD => ?_⟩⟩
    have sT := Same.trans s10 (same_new (o := .tup (([1 - (10 ^ ((40 : Int)).toNat * 10 ^ ((40 : Int)).toNat), -1] : List Int).map V.int)) ht)
    have hT : upd HV t (.tup (([1 - (10 ^ ((40 : Int)).toNat * 10 ^ ((40 : Int)).toNat), -1] : List Int).map V.int)) t = some (.tup (([1 - (10 ^ ((40 : Int)).toNat * 10 ^ ((40 : Int)).toNat), -1] : List Int).map V.int)) := upd_same
    have hD : upd HV t (.tup (([1 - (10 ^ ((40 : Int)).toNat * 10 ^ ((40 : Int)).toNat), -1] : List Int).map V.int)) D = none := hD
    refine lc_tup (K := K) (a := t) (xs := [1 - (10 ^ ((40 : Int)).toNat * 10 ^ ((40 : Int)).toNat), -1].map V.int) (fun g H' => Same (upd HV t (.tup (([1 - (10 ^ ((40 : Int)).toNat * 10 ^ ((40 : Int)).toNat), -1] : List Int).map V.int))) H' ∧ H' D = some (.lst ((([1 - (10 ^ ((40 : Int)).toNat * 10 ^ ((40 : Int)).toNat), -1] : List Int).take g).map fun n => tvL (dueT n)))) ⟨same_new hD, upd_same⟩ (fun g H' _ h => SqT.of (h.1 _ _ hT)) ?_ ?_
    · rintro g x Hx hg ⟨sx, hL⟩
      obtain ⟨n, hn, rfl⟩ := int_at hg
      refine ⟨rfl, _, rfl, n, rfl, (by decide +kernel : ∀ n ∈ ([1 - (10 ^ ((40 : Int)).toNat * 10 ^ ((40 : Int)).toNat), -1] : List Int), n < 29 ^ 60) n (List.mem_of_getElem? hn), fun Hy sy => ⟨_, sy _ _ hL, ?_, Same.put (Same.trans sx sy) hD, by rw [upd_same, take_map_more hn]⟩⟩
      rw [List.length_map, List.length_take]
      exact Nat.lt_of_le_of_lt (Nat.min_le_right _ _) (by show ([1 - (10 ^ ((40 : Int)).toNat * 10 ^ ((40 : Int)).toNat), -1] : List Int).length < sizeLine; decide)
    rintro Hx ⟨sx, hL⟩
    rw [List.length_map, List.take_length] at hL
    have s11 := Same.trans sT sx
    refine ⟨(by show 2 ≤ sizeLine; decide), fun e3 he3 => ⟨.list (([1 - (10 ^ ((40 : Int)).toNat * 10 ^ ((40 : Int)).toNat), -1] : List Int).map fun n => dtL (dueT n)), _, .lst (SqL.of (same_new he3 _ _ hL)) (dpAll_tv _), .lst (SqL.of upd_same) (.cons .non (.cons .non .nil)), by decide +kernel, by decide +kernel, _, rfl, iteF' (by decide +kernel) ?_⟩⟩
    have s12 := Same.trans s11 (same_new (o := .lst [V.non, .non]) he3)
    generalize upd Hx e3 (.lst [V.non, .non]) = HW at s12 ⊢
    clear he3 s11 hL hT hD ht sT sx
    refine ⟨_, _, rfl, rfl, p40, _, _, rfl, rfl, p40, _, _, rfl, rfl, m80, _, _, rfl, rfl, _, rfl, (by decide +kernel), fun Hp1 sp1 => ⟨_, _, rfl, dp_tv _, shw_due _, _, _, rfl, rfl, p40, _, _, rfl, rfl, p40, _, _, rfl, rfl, m80, _, _, rfl, rfl, _, rfl, fun Hp2 sp2 => ⟨_, _, rfl, dp_tv _, shw_due _, rfl, _, rfl, iteF' (same_no _) ?_⟩⟩⟩
    have s13 := Same.trans (Same.trans s12 sp1) sp2
    clear sp1 sp2 s12
    refine ⟨_, rfl, (by show 6 ≤ sizeLine; decide), fun t ht => ⟨t, rfl, ⟨_, SqT.of upd_same⟩, fun D hD => ?_⟩⟩
    have sT := Same.trans s13 (same_new (o := .tup (([27, 28, 29, -1, 841, 870] : List Int).map V.int)) ht)
    have hT : upd Hp2 t (.tup (([27, 28, 29, -1, 841, 870] : List Int).map V.int)) t = some (.tup (([27, 28, 29, -1, 841, 870] : List Int).map V.int)) := upd_same
    have hD : upd Hp2 t (.tup (([27, 28, 29, -1, 841, 870] : List Int).map V.int)) D = none := hD
    refine lc_tup (K := K) (a := t) (xs := [27, 28, 29, -1, 841, 870].map V.int) (fun g H' => Same (upd Hp2 t (.tup (([27, 28, 29, -1, 841, 870] : List Int).map V.int))) H' ∧ H' D = some (.lst ((([27, 28, 29, -1, 841, 870] : List Int).take g).map fun n => tvL (dueT n)))) ⟨same_new hD, upd_same⟩ (fun g H' _ h => SqT.of (h.1 _ _ hT)) ?_ ?_
    · rintro g x Hx hg ⟨sx, hL⟩
      obtain ⟨n, hn, rfl⟩ := int_at hg
      refine ⟨rfl, _, rfl, n, rfl, (by decide +kernel : ∀ n ∈ ([27, 28, 29, -1, 841, 870] : List Int), n < 29 ^ 60) n (List.mem_of_getElem? hn), fun Hy sy => ⟨_, sy _ _ hL, ?_, Same.put (Same.trans sx sy) hD, by rw [upd_same, take_map_more hn]⟩⟩
      rw [List.length_map, List.length_take]
      exact Nat.lt_of_le_of_lt (Nat.min_le_right _ _) (by show ([27, 28, 29, -1, 841, 870] : List Int).length < sizeLine; decide)
    rintro Hx ⟨sx, hL⟩
    rw [List.length_map, List.take_length] at hL
    refine ⟨(by show 1 ≤ sizeLine; decide), fun l6 hl6 => ⟨l6, 6, [.non], rfl, rfl, upd_same, by decide, by decide, by decide, fun p6 hp6 => ⟨.list (([27, 28, 29, -1, 841, 870] : List Int).map fun n => dtL (dueT n)), .list [.none, .none, .none, .none, .none, .none], .lst (SqL.of (same_new hp6 _ _ (same_new hl6 _ _ hL))) (dpAll_tv _), .lst (SqL.of upd_same) (.cons .non (.cons .non (.cons .non (.cons .non (.cons .non (.cons .non .nil)))))), by decide +kernel, by decide +kernel, ?_⟩⟩⟩
    have ev : PyData.eqv (.list (([27, 28, 29, -1, 841, 870] : List Int).map fun n => dtL (dueT n))) (.list [.none, .none, .none, .none, .none, .none]) = true := by decide +kernel
    rw [ev]
    exact k _ (Same.trans (Same.trans (Same.trans sT sx) (same_new hl6)) (same_new hp6))
end

/-! ### the law of numbers and sizes -/
def spLaw (K : PySem.W.Frag) : Sp := fun vs H Q _ => ∃ (a : Addr) (ns : List Int), vs = [.ref a] ∧ SqL K H a (ns.map V.int) ∧ ∀ H', Q (.bl true) H'
theorem sc_law : FnScope ["script", "pen", "turn", "number", "near", "one"] ["script"] (fnScope st_law_) := fnScope_by (by decide +kernel)
theorem menu8 : ∀ m ∈ ([-30, -29, -1, 0, 1, 28, 29, 841] : List Int), m ≤ 841 := by decide
theorem room60 {n : Nat} (h : n < 29 ^ 54) {m : Int} (hm : m ≤ 841) : (n : Int) + m < 29 ^ 60 := by
  have e : (29 : Nat) ^ 54 + 841 < 29 ^ 60 := by decide +kernel
  have h2 : ((n + 841 : Nat) : Int) < ((29 ^ 60 : Nat) : Int) := Int.ofNat_lt.mpr (by omega)
  have h3 : ((29 ^ 60 : Nat) : Int) = (29 : Int) ^ 60 := by norm_cast
  rw [h3] at h2
  have h4 : ((n + 841 : Nat) : Int) = (n : Int) + 841 := by rw [Int.natCast_add]; rfl
  rw [h4] at h2
  exact Int.lt_of_le_of_lt (Int.add_le_add_left hm _) h2
theorem room60n (n : Nat) : 0 - (n : Int) < 29 ^ 60 := Int.lt_of_le_of_lt (show 0 - (n : Int) ≤ 0 by omega) (by decide +kernel)
section
variable {P : Program} {w : World} {K : PySem.W.Frag} {mg : Str → Option Value} {base : Heap} {f : Addr} {fd : FuncData}
theorem fn_law (F : C8.Fun K "law" "law" st_law_ f fd) (B : BN mg) (Br : mg "repr" = none) (Bx : mg "max" = none) (Bn : mg "min" = none) (Cpen : Cal P w K mg base 1 "_law_pen" (spPen K) []) (Co : Cal P w K mg base 3 "_law_one_of" (spOne K) [])
    (Cl : Cal P w K mg base 4 "_law_letters" spLet29 []) (Cm : Cal P w K mg base 1 "_law_numbered" spNumbered []) (Cf : Cal P w K mg base 3 "_law_figures" spFigures []) (Cu : Cal P w K mg base 1 "_law_due_text" spDue []) (Ct : Cal P w K mg base 3 "text_of" spTextOf [])
    (Cr : CalG P w K mg base 5 "_law_texts_right" spRight) (Ch : CalG P w K mg base 5 "_law_hand_right" spTrue) : FnG P w K mg base 6 f fd ["script"] (spLaw K) := by
  refine fnG_by F sc_law (fun vs H Q E h => ?_) (fun cdv A outer s H vs Q E gu hr h => ?_)
  · obtain ⟨a, ns, rfl, _⟩ := h
    rfl
  · obtain ⟨a, ns, rfl, hS, k⟩ := h
    refine ⟨_, pss_cons (ps_set (i := 1) sc_law.nd rfl (Or.inl rfl) (pe_c Cpen hr (by decide) (by rfl) (pa_cons (pv 0) pa_nil)))
      (pss_cons (ps_for PassesOwn.never rfl (pi_range1 rfl B.range (pa_cons (pe_callB (call_max2 rfl) (by rfl) Bx (by decide +kernel) (pa_cons pe_int (pa_cons (pe_callB (call_min2 rfl) (by rfl) Bn (by decide +kernel) (pa_cons pe_int (pa_cons (pe_callB call_len_seq (by rfl) B.len PySem.boot_len (pa_cons (pv 0) pa_nil)) pa_nil))) pa_nil))) pa_nil)) (pg_name (i := 2) sc_law.nd rfl (Or.inl rfl))
        (pss_cons (ps_if (pt_not (pt_val (pe_g Cr gu hr (by decide) (by rfl) (pa_cons (pv 1) pa_nil)))) (pss_one (ps_ret pe_bl)) pss_nil)
        (pss_cons (ps_set (i := 3) sc_law.nd rfl (Or.inl rfl) (pe_c Cf hr (by decide) (by rfl) (pa_cons (pv 1) pa_nil)))
        (pss_cons (ps_set (i := 4) sc_law.nd rfl (Or.inl rfl) (pe_op op_add (pe_ix ix_tup (pe_c Cm hr (by decide) (by rfl) (pa_cons (pe_c Cl hr (by decide) (by rfl) (pa_cons (pv 1) (pa_cons pe_int pa_nil))) pa_nil)) pe_int (fun _ _ => rfl))
          (pe_c Co hr (by decide) (by rfl) (pa_cons (pv 1) (pa_cons (pe_lst (pa_cons (pe_un un_neg pe_int) (pa_cons (pe_un un_neg pe_int) (pa_cons (pe_un un_neg pe_int) (pa_cons pe_int (pa_cons pe_int (pa_cons pe_int (pa_cons pe_int (pa_cons pe_int pa_nil))))))))) pa_nil)))))
        (pss_one (ps_for PassesOwn.never rfl (pi_tup (pe_tup (pa_cons (pv 3) (pa_cons (pv 4) (pa_cons (pe_op op_sub pe_int (pv 3)) pa_nil))))) (pg_name (i := 5) sc_law.nd rfl (Or.inl rfl))
          (pss_one (ps_if (pt_cmpR op_ne (pe_callB (call_reprS gu hr.units) (by rfl) Br (by decide +kernel) (pa_cons (pe_c Ct hr (by decide) (by rfl) (pa_cons (pv 5) pa_nil)) pa_nil)) (pe_callB (call_reprS gu hr.units) (by rfl) Br (by decide +kernel) (pa_cons (pe_c Cu hr (by decide) (by rfl) (pa_cons (pv 5) pa_nil)) pa_nil)) (nomark _)) (pss_one (ps_ret pe_bl)) pss_nil))))))))
      (pss_one (ps_ret (pe_g0 Ch gu hr (by decide) (by rfl))))), ?_⟩
    refine ⟨_, rfl, a, ns, rfl, hS, fun H1 p c s1 hP p0 => ?_⟩
    have hS1 : SqL K H1 a (ns.map V.int) := by
      rcases hS with (z | ⟨o, z⟩) | z
      · exact .inl (.inl (s1 _ _ z))
      · exact .inl (.inr ⟨o, s1 _ _ z⟩)
      · exact .inr z
    refine ⟨_, rfl, a, _, rfl, .inl hS1, _, _, rfl, _, _, rfl, _, rfl, ?_, ?_, for_range (fun i σ H' => (∃ v2 v3 v4 v5 : Option V, σ = [some (.ref a), some (.ref p), v2, v3, v4, v5]) ∧ Pen H' p c) ⟨⟨_, _, _, _, rfl⟩, hP⟩ ?_ ?_⟩
    · split <;> split <;> omega
    · split <;> split <;> omega
    · rintro i σ H2 hi ⟨⟨v2, v3, v4, v5, rfl⟩, hP2⟩
      refine ⟨_, rfl, p, c, rfl, hP2, fun H3 k3 => ⟨_, rfl, iteF' rfl ?_⟩⟩
      refine ⟨_, rfl, p, c, rfl, k3.pen, fun n H4 hn k4 => ?_⟩
      refine ⟨_, rfl, p, c, 54, rfl, k4.pen, by decide, fun z H5 tz k5 => ⟨z, rfl, tz.low, Nat.le_trans tz.len (by decide), fun t H6 s6 ht => ⟨t, _, _, _, rfl, rfl, SqT.of ht, atI_nat (j := 0) rfl, _, rfl, _, rfl, _, rfl, _, rfl, (by show 8 ≤ sizeLine; decide), fun la hla => ?_⟩⟩⟩
      have hP6 := k5.pen.same s6
      refine ⟨p, c, hP6.new hla, .inl ⟨la, _, rfl, hP6.ne hla, SqL.of upd_same, (by show 0 < 8; decide), (by show 8 < 1000; decide), fun x H7 hx k7 => ?_⟩⟩
      obtain ⟨m, hm, rfl⟩ : ∃ m : Int, m ≤ 841 ∧ x = .int m := by
        have hx' : x ∈ ([-30, -29, -1, 0, 1, 28, 29, 841] : List Int).map V.int := hx
        obtain ⟨m, h1, h2⟩ := List.mem_map.mp hx'
        exact ⟨m, menu8 m h1, h2.symm⟩
      have nz : numL z.cps.toList < 29 ^ 54 := by
        have q := numL_lt (cs := z.cps.toList) tz.low
        rw [len_list] at q
        exact Nat.lt_of_lt_of_le q (Nat.pow_le_pow_right (by decide) tz.len)
      refine ⟨_, _, rfl, rfl, ?_⟩
      refine ⟨_, rfl, _, rfl, _, rfl, _, _, rfl, rfl, (by show 3 ≤ sizeLine; decide), fun u hu => ⟨u, rfl, ⟨_, SqT.of upd_same⟩, ?_⟩⟩
      have sU := same_new (o := .tup (([(n : Int), (numL z.cps.toList : Nat) + m, 0 - (n : Int)] : List Int).map V.int)) hu
      have hU : upd H7 u (.tup (([(n : Int), (numL z.cps.toList : Nat) + m, 0 - (n : Int)] : List Int).map V.int)) u = some (.tup (([(n : Int), (numL z.cps.toList : Nat) + m, 0 - (n : Int)] : List Int).map V.int)) := upd_same
      have hP7 := k7.pen.same sU
      refine for_tup (K := K) (a := u) (xs := ([(n : Int), (numL z.cps.toList : Nat) + m, 0 - (n : Int)] : List Int).map V.int) (fun j σ H' => Same (upd H7 u (.tup (([(n : Int), (numL z.cps.toList : Nat) + m, 0 - (n : Int)] : List Int).map V.int))) H' ∧ ∃ (v2 v3 v4 v5 : Option V), σ = [some (.ref a), some (.ref p), v2, v3, v4, v5]) ⟨Same.refl _, _, _, _, _, rfl⟩ (fun j σ H' _ h => SqT.of (h.1 _ _ hU)) ?_ ?_
      · rintro j x σ Ha hj ⟨sa, w2, w3, w4, w5, rfl⟩
        obtain ⟨q, hq, rfl⟩ := int_at hj
        have qb : q < 29 ^ 60 := by
          have mem := List.mem_of_getElem? hq
          have e3 : q = (n : Int) ∨ q = ((numL z.cps.toList : Nat) : Int) + m ∨ q = 0 - (n : Int) := by simpa using mem
          rcases e3 with rfl | rfl | rfl
          · have q2 := room60 hn (m := 0) (by decide)
            rw [Int.add_zero] at q2
            exact q2
          · exact room60 nz hm
          · exact room60n n
        refine ⟨_, rfl, q, rfl, qb, fun Hb sb => ⟨_, _, rfl, dp_tv _, shw_due _, _, rfl, q, rfl, fun Hc sc => ⟨_, _, rfl, dp_tv _, shw_due _, rfl, _, rfl, iteF' (same_no _) ?_⟩⟩⟩
        exact ⟨Same.trans (Same.trans sa sb) sc, _, _, _, _, rfl⟩
      · rintro σ Ha ⟨sa, w2, w3, w4, w5, rfl⟩
        exact ⟨⟨_, _, _, _, rfl⟩, hP7.same sa⟩
    · rintro σ H2 ⟨⟨v2, v3, v4, v5, rfl⟩, hP2⟩
      exact ⟨rfl, fun H3 s3 => k H3⟩
end

/-! ### what the top has written, the head -/
theorem all_mk {l : PySem.W.OpenLaw} {w : World} {K : PySem.W.Frag} {h : Heap} {mg : Str → Option Value} {fa f0 f1 f2 f3 f4 f5 f6 f7 f8 f9 f10 f11 f12 f13 f14 : Addr} (X : K.In h) (G : h.Ns mainGlobals mg) (named : mg "law" = some (.ref fa))
    {od0 an0 od1 an1 od2 an2 od3 an3 od4 an4 od5 an5 od6 an6 od7 an7 od8 an8 od9 an9 od10 an10 od11 an11 od12 an12 od13 an13 od14 an14 : Option Addr} {sl0 sl1 sl2 sl3 sl4 sl5 sl6 sl7 sl8 sl9 sl10 sl11 sl12 sl13 sl14 : Array (Option Value)} {oc0 kV0 dc0 pm0 cd0 ct0 oc1 kV1 dc1 pm1 cd1 ct1 oc2 kV2 dc2 pm2 cd2 ct2 oc3 kV3 dc3 pm3 cd3 ct3 oc4 kV4 dc4 pm4 cd4 ct4 oc5 kV5 dc5 pm5 cd5 ct5 oc6 kV6 dc6 pm6 cd6 ct6 oc7 kV7 dc7 pm7 cd7 ct7 oc8 kV8 dc8 pm8 cd8 ct8 oc9 kV9 dc9 pm9 cd9 ct9 oc10 kV10 dc10 pm10 cd10 ct10 oc11 kV11 dc11 pm11 cd11 ct11 oc12 kV12 dc12 pm12 cd12 ct12 oc13 kV13 dc13 pm13 cd13 ct13 oc14 kV14 dc14 pm14 cd14 ct14 : Value}
    (a0 : PySem.W.nsIn K mainGlobals "number_of" = some (some (.ref f0))) (l0 : K.lookup f0 = some ⟨oc0, od0, .func (PySem.W.fnOf "number_of" "number_of" (C8.fnArgs st_number_of_) (fnBody st_number_of_) (fnScope st_number_of_) .none kV0 dc0 pm0 an0 cd0 ct0), sl0⟩) (c0 : PySem.W.codeIn K cd0 "number_of" = true) (k0 : PySem.W.keepIn K (.ref f0) = true)
    (a1 : PySem.W.nsIn K mainGlobals "size_of" = some (some (.ref f1))) (l1 : K.lookup f1 = some ⟨oc1, od1, .func (PySem.W.fnOf "size_of" "size_of" (C8.fnArgs st_size_of_) (fnBody st_size_of_) (fnScope st_size_of_) .none kV1 dc1 pm1 an1 cd1 ct1), sl1⟩) (c1 : PySem.W.codeIn K cd1 "size_of" = true) (k1 : PySem.W.keepIn K (.ref f1) = true)
    (a2 : PySem.W.nsIn K mainGlobals "text_of" = some (some (.ref f2))) (l2 : K.lookup f2 = some ⟨oc2, od2, .func (PySem.W.fnOf "text_of" "text_of" (C8.fnArgs st_text_of_) (fnBody st_text_of_) (fnScope st_text_of_) .none kV2 dc2 pm2 an2 cd2 ct2), sl2⟩) (c2 : PySem.W.codeIn K cd2 "text_of" = true) (k2 : PySem.W.keepIn K (.ref f2) = true)
    (a3 : PySem.W.nsIn K mainGlobals "power_of" = some (some (.ref f3))) (l3 : K.lookup f3 = some ⟨oc3, od3, .func (PySem.W.fnOf "power_of" "power_of" (C8.fnArgs st_power_of_) (fnBody st_power_of_) (fnScope st_power_of_) .none kV3 dc3 pm3 an3 cd3 ct3), sl3⟩) (c3 : PySem.W.codeIn K cd3 "power_of" = true) (k3 : PySem.W.keepIn K (.ref f3) = true)
    (a4 : PySem.W.nsIn K mainGlobals "_law_pen" = some (some (.ref f4))) (l4 : K.lookup f4 = some ⟨oc4, od4, .func (PySem.W.fnOf "_law_pen" "_law_pen" (C8.fnArgs st_law_pen) (fnBody st_law_pen) (fnScope st_law_pen) .none kV4 dc4 pm4 an4 cd4 ct4), sl4⟩) (c4 : PySem.W.codeIn K cd4 "_law_pen" = true) (k4 : PySem.W.keepIn K (.ref f4) = true)
    (a5 : PySem.W.nsIn K mainGlobals "_law_fresh" = some (some (.ref f5))) (l5 : K.lookup f5 = some ⟨oc5, od5, .func (PySem.W.fnOf "_law_fresh" "_law_fresh" (C8.fnArgs st_law_fresh) (fnBody st_law_fresh) (fnScope st_law_fresh) .none kV5 dc5 pm5 an5 cd5 ct5), sl5⟩) (c5 : PySem.W.codeIn K cd5 "_law_fresh" = true) (k5 : PySem.W.keepIn K (.ref f5) = true)
    (a6 : PySem.W.nsIn K mainGlobals "_law_draw" = some (some (.ref f6))) (l6 : K.lookup f6 = some ⟨oc6, od6, .func (PySem.W.fnOf "_law_draw" "_law_draw" (C8.fnArgs st_law_draw) (fnBody st_law_draw) (fnScope st_law_draw) .none kV6 dc6 pm6 an6 cd6 ct6), sl6⟩) (c6 : PySem.W.codeIn K cd6 "_law_draw" = true) (k6 : PySem.W.keepIn K (.ref f6) = true)
    (a7 : PySem.W.nsIn K mainGlobals "_law_one_of" = some (some (.ref f7))) (l7 : K.lookup f7 = some ⟨oc7, od7, .func (PySem.W.fnOf "_law_one_of" "_law_one_of" (C8.fnArgs st_law_one_of) (fnBody st_law_one_of) (fnScope st_law_one_of) .none kV7 dc7 pm7 an7 cd7 ct7), sl7⟩) (c7 : PySem.W.codeIn K cd7 "_law_one_of" = true) (k7 : PySem.W.keepIn K (.ref f7) = true)
    (a8 : PySem.W.nsIn K mainGlobals "_law_numbered" = some (some (.ref f8))) (l8 : K.lookup f8 = some ⟨oc8, od8, .func (PySem.W.fnOf "_law_numbered" "_law_numbered" (C8.fnArgs st_law_numbered) (fnBody st_law_numbered) (fnScope st_law_numbered) .none kV8 dc8 pm8 an8 cd8 ct8), sl8⟩) (c8 : PySem.W.codeIn K cd8 "_law_numbered" = true) (k8 : PySem.W.keepIn K (.ref f8) = true)
    (a9 : PySem.W.nsIn K mainGlobals "_law_letters" = some (some (.ref f9))) (l9 : K.lookup f9 = some ⟨oc9, od9, .func (PySem.W.fnOf "_law_letters" "_law_letters" (C8.fnArgs st_law_letters) (fnBody st_law_letters) (fnScope st_law_letters) .none kV9 dc9 pm9 an9 cd9 ct9), sl9⟩) (c9 : PySem.W.codeIn K cd9 "_law_letters" = true) (k9 : PySem.W.keepIn K (.ref f9) = true)
    (a10 : PySem.W.nsIn K mainGlobals "_law_figures" = some (some (.ref f10))) (l10 : K.lookup f10 = some ⟨oc10, od10, .func (PySem.W.fnOf "_law_figures" "_law_figures" (C8.fnArgs st_law_figures) (fnBody st_law_figures) (fnScope st_law_figures) .none kV10 dc10 pm10 an10 cd10 ct10), sl10⟩) (c10 : PySem.W.codeIn K cd10 "_law_figures" = true) (k10 : PySem.W.keepIn K (.ref f10) = true)
    (a11 : PySem.W.nsIn K mainGlobals "_law_due_text" = some (some (.ref f11))) (l11 : K.lookup f11 = some ⟨oc11, od11, .func (PySem.W.fnOf "_law_due_text" "_law_due_text" (C8.fnArgs st_law_due_text) (fnBody st_law_due_text) (fnScope st_law_due_text) .none kV11 dc11 pm11 an11 cd11 ct11), sl11⟩) (c11 : PySem.W.codeIn K cd11 "_law_due_text" = true) (k11 : PySem.W.keepIn K (.ref f11) = true)
    (a12 : PySem.W.nsIn K mainGlobals "_law_texts_right" = some (some (.ref f12))) (l12 : K.lookup f12 = some ⟨oc12, od12, .func (PySem.W.fnOf "_law_texts_right" "_law_texts_right" (C8.fnArgs st_law_texts_right) (fnBody st_law_texts_right) (fnScope st_law_texts_right) .none kV12 dc12 pm12 an12 cd12 ct12), sl12⟩) (c12 : PySem.W.codeIn K cd12 "_law_texts_right" = true) (k12 : PySem.W.keepIn K (.ref f12) = true)
    (a13 : PySem.W.nsIn K mainGlobals "_law_hand_right" = some (some (.ref f13))) (l13 : K.lookup f13 = some ⟨oc13, od13, .func (PySem.W.fnOf "_law_hand_right" "_law_hand_right" (C8.fnArgs st_law_hand_right) (fnBody st_law_hand_right) (fnScope st_law_hand_right) .none kV13 dc13 pm13 an13 cd13 ct13), sl13⟩) (c13 : PySem.W.codeIn K cd13 "_law_hand_right" = true) (k13 : PySem.W.keepIn K (.ref f13) = true)
    (a14 : PySem.W.nsIn K mainGlobals "law" = some (some (.ref f14))) (l14 : K.lookup f14 = some ⟨oc14, od14, .func (PySem.W.fnOf "law" "law" (C8.fnArgs st_law_) (fnBody st_law_) (fnScope st_law_) .none kV14 dc14 pm14 an14 cd14 ct14), sl14⟩) (c14 : PySem.W.codeIn K cd14 "law" = true) (k14 : PySem.W.keepIn K (.ref f14) = true)
    {t_BASE : Tok} (s_BASE : PySem.W.nsIn K mainGlobals "BASE" = some (some (.int 29 t_BASE)))
    {t_ALPHABET : Tok} (s_ALPHABET : PySem.W.nsIn K mainGlobals "ALPHABET" = some (some (.str "abcdefghijklmnopqrstuvwxyz" t_ALPHABET)))
    (z_list : PySem.W.nsIn K mainGlobals "list" = some none)
    (z_int : PySem.W.nsIn K mainGlobals "int" = some none)
    (z_len : PySem.W.nsIn K mainGlobals "len" = some none)
    (z_range : PySem.W.nsIn K mainGlobals "range" = some none)
    (z_ord : PySem.W.nsIn K mainGlobals "ord" = some none)
    (z_repr : PySem.W.nsIn K mainGlobals "repr" = some none)
    (z_max : PySem.W.nsIn K mainGlobals "max" = some none)
    (z_min : PySem.W.nsIn K mainGlobals "min" = some none)
    (z_divmod : PySem.W.nsIn K mainGlobals "divmod" = some none) :
    ∃ fd : FuncData, (∀ (s : Shared) (u : Value), BindsTo s fd ⟨[u], []⟩ [("script", u)]) ∧ ∀ base : Heap, K.In base → base.Ns mainGlobals mg → FnG l.prog w K mg base 6 fa fd ["script"] (spLaw K) := by
  have e := named.symm.trans (PySem.W.mg_of X G a14)
  cases e
  have F0 : C8.Fun K "number_of" "number_of" st_number_of_ f0 _ := ⟨⟨_, _, _, _, _, _, _, _, _, _, rfl, l0, c0⟩⟩
  have Dnumber_of : C8.Def K mg "number_of" st_number_of_ f0 _ := ⟨F0, PySem.W.mg_of X G a0, k0⟩
  have bnumber_of := F0.binds rfl (ps := ["text"]) fun _ _ _ _ _ _ us hl => match us, hl with | [_], _ => rfl
  have F1 : C8.Fun K "size_of" "size_of" st_size_of_ f1 _ := ⟨⟨_, _, _, _, _, _, _, _, _, _, rfl, l1, c1⟩⟩
  have Dsize_of : C8.Def K mg "size_of" st_size_of_ f1 _ := ⟨F1, PySem.W.mg_of X G a1, k1⟩
  have bsize_of := F1.binds rfl (ps := ["text"]) fun _ _ _ _ _ _ us hl => match us, hl with | [_], _ => rfl
  have F2 : C8.Fun K "text_of" "text_of" st_text_of_ f2 _ := ⟨⟨_, _, _, _, _, _, _, _, _, _, rfl, l2, c2⟩⟩
  have Dtext_of : C8.Def K mg "text_of" st_text_of_ f2 _ := ⟨F2, PySem.W.mg_of X G a2, k2⟩
  have btext_of := F2.binds rfl (ps := ["number"]) fun _ _ _ _ _ _ us hl => match us, hl with | [_], _ => rfl
  have F3 : C8.Fun K "power_of" "power_of" st_power_of_ f3 _ := ⟨⟨_, _, _, _, _, _, _, _, _, _, rfl, l3, c3⟩⟩
  have Dpower_of : C8.Def K mg "power_of" st_power_of_ f3 _ := ⟨F3, PySem.W.mg_of X G a3, k3⟩
  have bpower_of := F3.binds rfl (ps := ["base", "many"]) fun _ _ _ _ _ _ us hl => match us, hl with | [_, _], _ => rfl
  have F4 : C8.Fun K "_law_pen" "_law_pen" st_law_pen f4 _ := ⟨⟨_, _, _, _, _, _, _, _, _, _, rfl, l4, c4⟩⟩
  have D_law_pen : C8.Def K mg "_law_pen" st_law_pen f4 _ := ⟨F4, PySem.W.mg_of X G a4, k4⟩
  have b_law_pen := F4.binds rfl (ps := ["script"]) fun _ _ _ _ _ _ us hl => match us, hl with | [_], _ => rfl
  have F5 : C8.Fun K "_law_fresh" "_law_fresh" st_law_fresh f5 _ := ⟨⟨_, _, _, _, _, _, _, _, _, _, rfl, l5, c5⟩⟩
  have D_law_fresh : C8.Def K mg "_law_fresh" st_law_fresh f5 _ := ⟨F5, PySem.W.mg_of X G a5, k5⟩
  have b_law_fresh := F5.binds rfl (ps := ["pen"]) fun _ _ _ _ _ _ us hl => match us, hl with | [_], _ => rfl
  have F6 : C8.Fun K "_law_draw" "_law_draw" st_law_draw f6 _ := ⟨⟨_, _, _, _, _, _, _, _, _, _, rfl, l6, c6⟩⟩
  have D_law_draw : C8.Def K mg "_law_draw" st_law_draw f6 _ := ⟨F6, PySem.W.mg_of X G a6, k6⟩
  have b_law_draw := F6.binds rfl (ps := ["pen", "bound"]) fun _ _ _ _ _ _ us hl => match us, hl with | [_, _], _ => rfl
  have F7 : C8.Fun K "_law_one_of" "_law_one_of" st_law_one_of f7 _ := ⟨⟨_, _, _, _, _, _, _, _, _, _, rfl, l7, c7⟩⟩
  have D_law_one_of : C8.Def K mg "_law_one_of" st_law_one_of f7 _ := ⟨F7, PySem.W.mg_of X G a7, k7⟩
  have b_law_one_of := F7.binds rfl (ps := ["pen", "rows"]) fun _ _ _ _ _ _ us hl => match us, hl with | [_, _], _ => rfl
  have F8 : C8.Fun K "_law_numbered" "_law_numbered" st_law_numbered f8 _ := ⟨⟨_, _, _, _, _, _, _, _, _, _, rfl, l8, c8⟩⟩
  have D_law_numbered : C8.Def K mg "_law_numbered" st_law_numbered f8 _ := ⟨F8, PySem.W.mg_of X G a8, k8⟩
  have b_law_numbered := F8.binds rfl (ps := ["text"]) fun _ _ _ _ _ _ us hl => match us, hl with | [_], _ => rfl
  have F9 : C8.Fun K "_law_letters" "_law_letters" st_law_letters f9 _ := ⟨⟨_, _, _, _, _, _, _, _, _, _, rfl, l9, c9⟩⟩
  have D_law_letters : C8.Def K mg "_law_letters" st_law_letters f9 _ := ⟨F9, PySem.W.mg_of X G a9, k9⟩
  have b_law_letters := F9.binds rfl (ps := ["pen", "most"]) fun _ _ _ _ _ _ us hl => match us, hl with | [_, _], _ => rfl
  have F10 : C8.Fun K "_law_figures" "_law_figures" st_law_figures f10 _ := ⟨⟨_, _, _, _, _, _, _, _, _, _, rfl, l10, c10⟩⟩
  have D_law_figures : C8.Def K mg "_law_figures" st_law_figures f10 _ := ⟨F10, PySem.W.mg_of X G a10, k10⟩
  have b_law_figures := F10.binds rfl (ps := ["pen"]) fun _ _ _ _ _ _ us hl => match us, hl with | [_], _ => rfl
  have F11 : C8.Fun K "_law_due_text" "_law_due_text" st_law_due_text f11 _ := ⟨⟨_, _, _, _, _, _, _, _, _, _, rfl, l11, c11⟩⟩
  have D_law_due_text : C8.Def K mg "_law_due_text" st_law_due_text f11 _ := ⟨F11, PySem.W.mg_of X G a11, k11⟩
  have b_law_due_text := F11.binds rfl (ps := ["number"]) fun _ _ _ _ _ _ us hl => match us, hl with | [_], _ => rfl
  have F12 : C8.Fun K "_law_texts_right" "_law_texts_right" st_law_texts_right f12 _ := ⟨⟨_, _, _, _, _, _, _, _, _, _, rfl, l12, c12⟩⟩
  have D_law_texts_right : C8.Def K mg "_law_texts_right" st_law_texts_right f12 _ := ⟨F12, PySem.W.mg_of X G a12, k12⟩
  have b_law_texts_right := F12.binds rfl (ps := ["pen"]) fun _ _ _ _ _ _ us hl => match us, hl with | [_], _ => rfl
  have F13 : C8.Fun K "_law_hand_right" "_law_hand_right" st_law_hand_right f13 _ := ⟨⟨_, _, _, _, _, _, _, _, _, _, rfl, l13, c13⟩⟩
  have D_law_hand_right : C8.Def K mg "_law_hand_right" st_law_hand_right f13 _ := ⟨F13, PySem.W.mg_of X G a13, k13⟩
  have b_law_hand_right := F13.binds rfl (ps := []) fun _ _ _ _ _ _ us hl => match us, hl with | [], _ => rfl
  have F14 : C8.Fun K "law" "law" st_law_ _ _ := ⟨⟨_, _, _, _, _, _, _, _, _, _, rfl, l14, c14⟩⟩
  have m_list := PySem.W.mg_none_of X G z_list
  have m_int := PySem.W.mg_none_of X G z_int
  have m_len := PySem.W.mg_none_of X G z_len
  have m_range := PySem.W.mg_none_of X G z_range
  have m_ord := PySem.W.mg_none_of X G z_ord
  have m_repr := PySem.W.mg_none_of X G z_repr
  have m_max := PySem.W.mg_none_of X G z_max
  have m_min := PySem.W.mg_none_of X G z_min
  have m_divmod := PySem.W.mg_none_of X G z_divmod
  have B : BN mg := { list := m_list, int := m_int, len := m_len, range := m_range }
  have N : NB mg := { base := ⟨_, PySem.W.mg_of X G s_BASE⟩ }
  refine ⟨PySem.W.fnOf "law" "law" (C8.fnArgs st_law_) (fnBody st_law_) (fnScope st_law_) .none kV14 dc14 pm14 an14 cd14 ct14, fun s u => .of_eq rfl, fun base _ _ => ?_⟩
  have cpen : Cal l.prog w K mg base 1 "_law_pen" (spPen K) [] := cal_pen D_law_pen b_law_pen B
  have cfresh : Cal l.prog w K mg base 1 "_law_fresh" spFresh [] := cal_fresh D_law_fresh b_law_fresh B
  have cdraw : Cal l.prog w K mg base 2 "_law_draw" spDraw [] := cal_draw D_law_draw b_law_draw B cfresh
  have cone : Cal l.prog w K mg base 3 "_law_one_of" (spOne K) [] := cal_one D_law_one_of b_law_one_of B cdraw
  have clet : Cal l.prog w K mg base 4 "_law_letters" spLet29 [] := cal_let29 D_law_letters b_law_letters B cdraw cone
  have cnum : Cal l.prog w K mg base 1 "_law_numbered" spNumbered [] := cal_numbered D_law_numbered b_law_numbered m_ord
  have cfig : Cal l.prog w K mg base 3 "_law_figures" spFigures [] := cal_figures D_law_figures b_law_figures B cdraw
  have cdue : Cal l.prog w K mg base 1 "_law_due_text" spDue [] := cal_due D_law_due_text b_law_due_text B
  have cpow : Cal l.prog w K mg base 1 "power_of" spPow29 [] := cal_power_of_ Dpower_of bpower_of
  have cn : Cal l.prog w K mg base 3 "number_of" spNumOf [] := cal_number_of_ 2 Dnumber_of bnumber_of N m_ord
  have cs : Cal l.prog w K mg base 3 "size_of" spSizeOf [] := cal_size_of_ 1 Dsize_of bsize_of N m_len cpow
  have ct : Cal l.prog w K mg base 3 "text_of" spTextOf [] := cal_text_of_ Dtext_of btext_of N ⟨_, PySem.W.mg_of X G s_ALPHABET⟩ m_len m_divmod
  have ctr : CalG l.prog w K mg base 5 "_law_texts_right" spRight := ⟨_, _, _, fn_tright F12 m_repr clet cnum cn cs ct, PySem.W.mg_of X G a12, k12, b_law_texts_right⟩
  have chr : CalG l.prog w K mg base 5 "_law_hand_right" spTrue := ⟨_, _, _, fn_hand F13 B m_repr cn cs ct cdue, PySem.W.mg_of X G a13, k13, b_law_hand_right⟩
  exact fn_law F14 B m_repr m_max m_min cpen cone clet cnum cfig cdue ct ctr chr
end Toy

open PySem PySem.W PyProof.Rows in
set_option maxRecDepth 100000 in
set_option maxHeartbeats 0 in
theorem PySem.Challenge.cw_fewtests_k07_numbers_and_sizes_holds : PySem.Challenge.rw_fewtests_k07_numbers_and_sizes.Holds := by
  w_on; o_law; k_head; (case hw => w_witness2)
  k_fill
  refine Toy.walkG (l := PySem.Challenge.rw_fewtests_k07_numbers_and_sizes) (k := 6) (sp := Toy.spLaw) (x := "script") rfl rfl ⟨rfl, by decide, by decide⟩ (fun w h Y => PySem.W.kIn_of Y) ?F (fun K H a ns few sq => ⟨a, ns, rfl, sq, fun _ => rfl⟩)
  case F =>
    intro w mg fa h KX G hmg
    refine' Toy.all_mk KX G hmg ?a0 ?l0 ?c0 ?k0 ?a1 ?l1 ?c1 ?k1 ?a2 ?l2 ?c2 ?k2 ?a3 ?l3 ?c3 ?k3 ?a4 ?l4 ?c4 ?k4 ?a5 ?l5 ?c5 ?k5 ?a6 ?l6 ?c6 ?k6 ?a7 ?l7 ?c7 ?k7 ?a8 ?l8 ?c8 ?k8 ?a9 ?l9 ?c9 ?k9 ?a10 ?l10 ?c10 ?k10 ?a11 ?l11 ?c11 ?k11 ?a12 ?l12 ?c12 ?k12 ?a13 ?l13 ?c13 ?k13 ?a14 ?l14 ?c14 ?k14 ?s_BASE ?s_ALPHABET ?z_list ?z_int ?z_len ?z_range ?z_ord ?z_repr ?z_max ?z_min ?z_divmod
    (case a0 => k_is)
    (case l0 => k_is)
    (case c0 => k_is)
    (case k0 => k_is)
    (case a1 => k_is)
    (case l1 => k_is)
    (case c1 => k_is)
    (case k1 => k_is)
    (case a2 => k_is)
    (case l2 => k_is)
    (case c2 => k_is)
    (case k2 => k_is)
    (case a3 => k_is)
    (case l3 => k_is)
    (case c3 => k_is)
    (case k3 => k_is)
    (case a4 => k_is)
    (case l4 => k_is)
    (case c4 => k_is)
    (case k4 => k_is)
    (case a5 => k_is)
    (case l5 => k_is)
    (case c5 => k_is)
    (case k5 => k_is)
    (case a6 => k_is)
    (case l6 => k_is)
    (case c6 => k_is)
    (case k6 => k_is)
    (case a7 => k_is)
    (case l7 => k_is)
    (case c7 => k_is)
    (case k7 => k_is)
    (case a8 => k_is)
    (case l8 => k_is)
    (case c8 => k_is)
    (case k8 => k_is)
    (case a9 => k_is)
    (case l9 => k_is)
    (case c9 => k_is)
    (case k9 => k_is)
    (case a10 => k_is)
    (case l10 => k_is)
    (case c10 => k_is)
    (case k10 => k_is)
    (case a11 => k_is)
    (case l11 => k_is)
    (case c11 => k_is)
    (case k11 => k_is)
    (case a12 => k_is)
    (case l12 => k_is)
    (case c12 => k_is)
    (case k12 => k_is)
    (case a13 => k_is)
    (case l13 => k_is)
    (case c13 => k_is)
    (case k13 => k_is)
    (case a14 => k_is)
    (case l14 => k_is)
    (case c14 => k_is)
    (case k14 => k_is)
    (case s_BASE => k_is)
    (case s_ALPHABET => k_is)
    (case z_list => k_is)
    (case z_int => k_is)
    (case z_len => k_is)
    (case z_range => k_is)
    (case z_ord => k_is)
    (case z_repr => k_is)
    (case z_max => k_is)
    (case z_min => k_is)
    (case z_divmod => k_is)
