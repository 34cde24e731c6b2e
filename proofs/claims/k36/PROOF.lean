import PyProof.Rows.All
import Wide.All
import OpenK.AllK
import Wide.FinOn
import PyProof.Draws
import PyProof.Rows.SortShellAny
import HandS.Codes
import HandS.Conv
import HandS.DictComp
import HandS.ExcValue
import HandS.Flow
import HandS.ForMost
import HandS.GenList
import HandS.GenYield
import HandS.IsInst
import HandS.Replace
import HandS.Star
import HandS.Style
import HandS.TupAny
import HandS.TupMul
import HandS.Wide
import HandS.WideBits
import HandS.Zip
import PySem.Challenge.RW_fewtests_k36_effects_of_forms
set_option Elab.async false
set_option linter.all false
set_option maxRecDepth 100000
set_option maxHeartbeats 2000000
set_option pp.maxSteps 1500
set_option pp.deepTerms false
namespace Toy
open PySem L2
open C8 (Cal cal0 pe_c pss_cut fnScope fnBody fnScope_by)
/-! ### the text by places -/
def top (i : Nat) : Stmt := PySem.Challenge.pw_fewtests_k36_effects_of_forms.main.body.getD i (.Pass ⟨0, 0, 0, 0⟩)
abbrev st_power_of_ : Stmt := top 1
abbrev st_effect_ : Stmt := top 4
abbrev st_accepts_ : Stmt := top 5
abbrev st_opposite_ : Stmt := top 6
abbrev st_form_fits_ : Stmt := top 7
abbrev st_place_of : Stmt := top 8
abbrev st_law_pen : Stmt := top 10
abbrev st_law_fresh : Stmt := top 11
abbrev st_law_draw : Stmt := top 12
abbrev st_law_one_of : Stmt := top 13
abbrev st_law_piece : Stmt := top 14
abbrev st_law_normal : Stmt := top 15
abbrev st_law_fill : Stmt := top 16
abbrev st_law_fills : Stmt := top 17
abbrev st_law_end : Stmt := top 18
abbrev st_law_writer : Stmt := top 19
abbrev st_law_groups : Stmt := top 20
abbrev st_law_form : Stmt := top 21
abbrev st_law_read : Stmt := top 22
abbrev st_law_effect : Stmt := top 23
abbrev st_law_letters : Stmt := top 24
abbrev st_law_are_read : Stmt := top 25
abbrev st_law_does_fit : Stmt := top 26
abbrev st_law_long_is_right : Stmt := top 27
abbrev st_law_ : Stmt := top 28

theorem iteT' {b : Bool} {A B : Prop} (e : b = true) (h : A) : if b = true then A else B := by
  rw [if_pos e]
  exact h
theorem iteF' {b : Bool} {A B : Prop} (e : b = false) (h : B) : if b = true then A else B := by
  rw [e]
  exact iteF h
/-! ### the pen -/
/-- the pen at p: cells at c (some ints), a place, what is left -/
def Pen (H : Hp) (p c : Addr) : Prop := ∃ (ns : List Int) (i j : Int), H p = some (.lst [.ref c, .int i, .int j]) ∧ H c = some (.lst (ns.map V.int))
theorem pen_ne {H : Hp} {p c : Addr} {ns : List Int} {i j : Int} (h : H p = some (.lst [.ref c, .int i, .int j])) (h2 : H c = some (.lst (ns.map V.int))) : p ≠ c := by
  refine ne_of h h2 fun e => ?_
  injection e with e
  cases ns with
  | nil => cases e
  | cons a r =>
    rw [List.map_cons] at e
    injection e with e1 e2
    cases e1
/-- all but p stands as it stood, the pen at p stands -/
structure Kp (p c : Addr) (H H' : Hp) : Prop where
  but : ∀ b o, b ≠ p → H b = some o → H' b = some o
  pen : Pen H' p c
theorem Kp.rfl' {p c : Addr} {H : Hp} (h : Pen H p c) : Kp p c H H := ⟨fun _ _ _ e => e, h⟩
theorem Kp.trans {p c : Addr} {H H1 H2 : Hp} (a : Kp p c H H1) (b : Kp p c H1 H2) : Kp p c H H2 := ⟨fun x o n e => b.but x o n (a.but x o n e), b.pen⟩
theorem Pen.ne {H : Hp} {p c q : Addr} (h : Pen H p c) (hq : H q = none) : q ≠ p := by
  obtain ⟨ns, i, j, h1, _⟩ := h
  exact (ne_of_none h1 hq).symm
theorem Pen.neC {H : Hp} {p c q : Addr} (h : Pen H p c) (hq : H q = none) : q ≠ c := by
  obtain ⟨ns, i, j, _, h1⟩ := h
  exact (ne_of_none h1 hq).symm
theorem Pen.put {H : Hp} {p c q : Addr} {o : HO} (h : Pen H p c) (n1 : q ≠ p) (n2 : q ≠ c) : Pen (upd H q o) p c := by
  obtain ⟨ns, i, j, h1, h2⟩ := h
  exact ⟨ns, i, j, by rw [upd_ne n1.symm]; exact h1, by rw [upd_ne n2.symm]; exact h2⟩
theorem Pen.new {H : Hp} {p c q : Addr} {o : HO} (h : Pen H p c) (hq : H q = none) : Pen (upd H q o) p c := h.put (h.ne hq) (h.neC hq)
theorem Kp.new {H H' : Hp} {p c q : Addr} {o : HO} (h : Kp p c H H') (hq : H' q = none) : Kp p c H (upd H' q o) :=
  ⟨fun b u n e => by rw [upd_ne (ne_of_none (h.but b u n e) hq)]; exact h.but b u n e, h.pen.new hq⟩
/-- something made since is changed -/
theorem Kp.put {H H' : Hp} {p c q : Addr} {o : HO} (h : Kp p c H H') (hP : Pen H p c) (hq : H q = none) : Kp p c H (upd H' q o) :=
  ⟨fun b u n e => by rw [upd_ne (ne_of_none e hq)]; exact h.but b u n e, h.pen.put (hP.ne hq) (hP.neC hq)⟩
theorem Kp.free {H H' : Hp} {p c q : Addr} (h : Kp p c H H') (hq : H' q = none) : H q = none := by
  cases e : H q with
  | none => rfl
  | some o =>
    rw [h.but q o (h.pen.ne hq) e] at hq
    cases hq
theorem Kp.seqL {K : PySem.W.Frag} {p c a : Addr} {H H' : Hp} {xs : List V} (k : Kp p c H H') (n : a ≠ p) (h : SqL K H a xs) : SqL K H' a xs := by
  rcases h with (h | ⟨o, h⟩) | h
  · exact .inl (.inl (k.but _ _ n h))
  · exact .inl (.inr ⟨o, k.but _ _ n h⟩)
  · exact .inr h

/-- the built-in names that these defs read -/
structure BN (mg : Str → Option Value) : Prop where
  list : mg "list" = none
  int : mg "int" = none
  len : mg "len" = none
  range : mg "range" = none

def spPen (K : PySem.W.Frag) : Sp := fun vs H Q _ => ∃ (a : Addr) (ns : List Int), vs = [.ref a] ∧ SqL K H a (ns.map V.int) ∧
  ∀ H' p c, Same H H' → Pen H' p c → H p = none → Q (.ref p) H'
def spFresh : Sp := fun vs H Q _ => ∃ p c : Addr, vs = [.ref p] ∧ Pen H p c ∧ ∀ (z : Int) H', Kp p c H H' → Q (.int z) H'
/-- a number from 0 to b - 1 -/
def spDraw : Sp := fun vs H Q _ => ∃ (p c : Addr) (b : Int), vs = [.ref p, .int b] ∧ Pen H p c ∧ 0 < b ∧ b.natAbs.log2 < 9000 ∧
  ∀ (d : Int) H', 0 ≤ d → d < b → Kp p c H H' → Q (.int d) H'

theorem sc_pen : FnScope ["script"] ["script"] (fnScope st_law_pen) := fnScope_by (by decide +kernel)
theorem sc_fresh : FnScope ["pen", "place", "cells", "cell", "prime", "state", "found", "lap"] ["pen"] (fnScope st_law_fresh) := fnScope_by (by decide +kernel)
theorem sc_draw : FnScope ["pen", "bound", "digit"] ["pen", "bound"] (fnScope st_law_draw) := fnScope_by (by decide +kernel)

/-- a list of ints is data -/
theorem dp_ints {K : PySem.W.Frag} {H : Hp} : ∀ ns : List Int, DpAll K H (ns.map V.int) (ns.map PyData.int)
  | [] => .nil
  | n :: r => .cons (.int n) (dp_ints r)
theorem shaped_ints (ns : List Int) : SeqAt.shaped (.list (ns.map PyData.int)) = true := by
  have h : ∀ l : List Int, PyData.canLayAll0 (l.map PyData.int) = true ∧ PyData.depthAll (l.map PyData.int) = 0 := by
    intro l
    induction l with
    | nil => exact ⟨by simp only [List.map_nil, PyData.canLayAll0], by simp only [List.map_nil, PyData.depthAll]⟩
    | cons a r ih => exact ⟨by simp only [List.map_cons, PyData.canLayAll0, PyData.canLay0, ih.1, Bool.and_self], by simp only [List.map_cons, PyData.depthAll, PyData.depth, ih.2, Nat.max_self]⟩
  unfold SeqAt.shaped
  simp only [PyData.canLay0, PyData.depth, (h ns).1, (h ns).2, Bool.true_and]
  decide
theorem ints_ne_nil (ns : List Int) : (!PyData.eqv (.list (ns.map PyData.int)) (.list [])) = !ns.isEmpty := by
  cases ns with
  | nil => simp only [List.map_nil, PyData.eqv, PyData.eqvAll, List.isEmpty_nil]
  | cons a r => simp only [List.map_cons, PyData.eqv, PyData.eqvAll, List.isEmpty_cons]
theorem prime_ok : (-(2 ^ 64) < (2305843009213693951 : Int) ∧ (2305843009213693951 : Int) < 2 ^ 64) := by decide

section
variable {P : Program} {w : World} {K : PySem.W.Frag} {mg : Str → Option Value} {base : Heap} {f : Addr} {fd : FuncData}
theorem cal_pen (F : C8.Def K mg "_law_pen" st_law_pen f fd) (b : Binds K fd ["script"] []) (B : BN mg) : Cal P w K mg base 1 "_law_pen" (spPen K) [] := by
  refine cal0 F b .nil sc_pen (fun vs H Q E h => ?_) (fun cdv A outer s H vs Q E hr h => ?_)
  · obtain ⟨a, ns, rfl, _⟩ := h
    rfl
  · obtain ⟨a, ns, rfl, hS, k⟩ := h
    refine ⟨_, pss_one (ps_ret (pe_lst (pa_cons (pe_callTy call_list_of (by rfl) B.list (by decide +kernel) (pa_cons (pe_slice sl_list (pv 0) po_none (po_some pe_int)) pa_nil)) (pa_cons pe_int (pa_cons pe_int pa_nil))))), ?_⟩
    refine ⟨_, rfl, _, rfl, a, _, rfl, hS, fun p hp => ?_⟩
    refine ⟨p, _, rfl, .inl (SqL.of upd_same), fun l hl => ?_⟩
    refine ⟨(by show 3 ≤ sizeLine; decide), fun q hq => ?_⟩
    have hl0 : H l = none := by
      have n : l ≠ p := fun z => by
        rw [z, upd_same] at hl
        cases hl
      rw [upd_ne n] at hl
      exact hl
    have s1 : Same H (upd (upd H p (.lst (cutV (ns.map V.int) none (some 63)))) l (.lst (cutV (ns.map V.int) none (some 63)))) := fun b o e => by
      rw [upd_ne (ne_of_none e hl0), upd_ne (ne_of_none e hp)]
      exact e
    obtain ⟨ms, hms⟩ : ∃ ms : List Int, cutV (ns.map V.int) none (some 63) = ms.map V.int := by
      unfold cutV
      rw [← List.map_drop, ← List.map_take]
      exact ⟨_, rfl⟩
    refine k _ q l (fun b o e => ?_) ⟨ms, 0, 0, upd_same, ?_⟩ (s1.free hq)
    · rw [upd_ne (ne_of_none (s1 b o e) hq)]
      exact s1 b o e
    · have n : l ≠ q := fun z => by
        rw [← z, upd_same] at hq
        cases hq
      rw [upd_ne n, upd_same, hms]
theorem cal_fresh (F : C8.Def K mg "_law_fresh" st_law_fresh f fd) (b : Binds K fd ["pen"] []) (B : BN mg) : Cal P w K mg base 1 "_law_fresh" spFresh [] := by
  refine cal0 F b .nil sc_fresh (fun vs H Q E h => ?_) (fun cdv A outer s H vs Q E hr h => ?_)
  · obtain ⟨p, c, rfl, _⟩ := h
    rfl
  · obtain ⟨p, c, rfl, ⟨ns, i, j, hp, hc⟩, k⟩ := h
    have hpc := pen_ne hp hc
    refine ⟨_, pss_cons (ps_par (i := 1) (j := 2) rfl sc_fresh.nd rfl rfl (by decide) rfl rfl (pa_cons (pe_ix ix_list (pv 0) pe_int (fun _ _ => rfl)) (pa_cons (pe_ix ix_list (pv 0) pe_int (fun _ _ => rfl)) pa_nil)) (by rfl))
      (pss_cons (ps_asg (pe_op op_add (pv 1) pe_int) (pg_sub (pv 0) pe_int set_list))
      (pss_cut (ps_set (i := 3) sc_fresh.nd rfl (Or.inl rfl) (pe_ifExp (pt_cmpR (op_neD hr.units) (pv 2) (pe_lst pa_nil) (nomark _)) (pe_ix ix_list (pv 2) (pe_op op_mod (pe_callTy call_int1 (by rfl) B.int (by decide +kernel) (pa_cons (pv 1) pa_nil)) (pe_callB call_len_seq (by rfl) B.len PySem.boot_len (pa_cons (pv 2) pa_nil))) (fun _ _ => rfl)) pe_int))
      (pss_cut (ps_if (PW.pt (pw_and (pt_cmpR op_lt (pv 1) (pe_callB call_len_seq (by rfl) B.len PySem.boot_len (pa_cons (pv 2) pa_nil)) (nomark _)) (pw_and1 (pt_cmpR op_ge (pv 3) (pe_op op_pow pe_int pe_int) (nomark _))))) (pss_one (ps_ret (pe_op op_sub (pv 3) (pe_op op_pow pe_int pe_int)))) pss_nil)
      (pss_cons (ps_set (i := 4) sc_fresh.nd rfl (Or.inl rfl) pe_int)
      (pss_cons (ps_set (i := 5) sc_fresh.nd rfl (Or.inl rfl) (pe_op op_mod (pe_callTy call_int1 (by rfl) B.int (by decide +kernel) (pa_cons (pe_op op_add (pe_op op_add (pe_op op_mul (pv 3) pe_int) (pe_op op_mul pe_int (pv 1))) pe_int) pa_nil)) (pv 4)))
      (pss_cons (ps_set (i := 6) sc_fresh.nd rfl (Or.inl rfl) (pv 5))
      (pss_cons (ps_for PassesOwn.never rfl (pi_range1 rfl B.range (pa_cons pe_int pa_nil)) (pg_name (i := 7) sc_fresh.nd rfl (Or.inl rfl))
        (pss_cons (ps_set (i := 5) sc_fresh.nd rfl (Or.inl rfl) (pe_op op_mod (pe_callTy call_int1 (by rfl) B.int (by decide +kernel) (pa_cons (pe_op op_add (pe_op op_add (pe_op op_mul (pv 5) (pv 5)) (pe_op op_mul (pe_op op_mul pe_int (pe_op op_add (pv 7) pe_int)) (pe_op op_add (pv 1) pe_int))) (pv 3)) pa_nil)) (pv 4)))
        (pss_one (ps_set (i := 6) sc_fresh.nd rfl (Or.inl rfl) (pe_op op_add (pe_op op_mul (pv 6) (pv 4)) (pv 5))))))
      (pss_one (ps_ret (pv 6)))))))))), ?_⟩
    refine ⟨_, rfl, p, _, _, _, rfl, rfl, SqL.of hp, atI_nat (j := 1) rfl, _, rfl, p, _, _, _, rfl, rfl, SqL.of hp, atI_nat (j := 0) rfl, _, _, rfl, ?_⟩
    refine ⟨_, rfl, _, _, rfl, rfl, _, rfl, p, _, _, 1, rfl, rfl, hp, rfl, ?_⟩
    have hp1 : upd H p (.lst [.ref c, .int (i + 1), .int j]) p = some (.lst [.ref c, .int (i + 1), .int j]) := upd_same
    have hc1 : upd H p (.lst [.ref c, .int (i + 1), .int j]) c = some (.lst (ns.map V.int)) := by
      rw [upd_ne hpc.symm]
      exact hc
    have k1 : Kp p c H (upd H p (.lst [.ref c, .int (i + 1), .int j])) := ⟨fun b o n e => by rw [upd_ne n]; exact e, ns, i + 1, j, hp1, hc1⟩
    -- behind the third statement the cell is some number; a new empty list stands
    refine ⟨fun σ H' => (∃ z : Int, σ = [some (.ref p), some (.int i), some (.ref c), some (.int z), none, none, none, none]) ∧ Kp p c H H' ∧ H' c = some (.lst (ns.map V.int)), ?_, ?_⟩
    · refine ⟨_, rfl, Nat.zero_le _, fun q hq => ?_⟩
      have k2 : Kp p c H (upd (upd H p (.lst [.ref c, .int (i + 1), .int j])) q (.lst [])) := k1.new hq
      have hc2 : upd (upd H p (.lst [.ref c, .int (i + 1), .int j])) q (.lst []) c = some (.lst (ns.map V.int)) := by
        rw [upd_ne (ne_of_none hc1 hq)]
        exact hc1
      refine ⟨.list (ns.map PyData.int), .list [], .lst (SqL.of hc2) (dp_ints ns), .lst (SqL.of upd_same) .nil, shaped_ints ns, by decide, _, rfl, ?_⟩
      rw [ints_ne_nil]
      cases ns with
      | nil =>
        refine iteF ?_
        exact ⟨⟨0, rfl⟩, k2, hc2⟩
      | cons n r =>
        refine iteT ?_
        have hm : (0 : Int) ≤ i % (((n :: r).map V.int).length : Nat) ∧ i % (((n :: r).map V.int).length : Nat) < (((n :: r).map V.int).length : Nat) := by
          have h0 : (0 : Int) < (((n :: r).map V.int).length : Nat) := by
            rw [List.length_map, List.length_cons]
            omega
          exact ⟨Int.emod_nonneg _ (by omega), Int.emod_lt_of_pos _ h0⟩
        obtain ⟨u, hu⟩ : ∃ u : Nat, i % (((n :: r).map V.int).length : Nat) = (u : Int) := ⟨_, (Int.toNat_of_nonneg hm.1).symm⟩
        have hlt : u < (n :: r).length := by
          have q := hm.2
          rw [hu, List.length_map] at q
          omega
        refine ⟨_, rfl, _, rfl, .inl ⟨_, rfl, _, rfl, c, _, rfl, .inl (SqL.of hc2), _, _, rfl, rfl, ?_, c, _, _, .int ((n :: r)[u]), rfl, rfl, SqL.of hc2, ?_, ⟨_, rfl⟩, k2, hc2⟩⟩
        · rw [List.length_map, List.length_cons]
          omega
        · rw [hu]
          exact atI_nat (by rw [List.getElem?_map, List.getElem?_eq_getElem hlt]; rfl)
    · rintro σ H2 ⟨⟨z, rfl⟩, k2, hc2⟩
      refine ⟨fun σ H' => σ = [some (.ref p), some (.int i), some (.ref c), some (.int z), none, none, none, none] ∧ H' = H2, ?_, ?_⟩
      · refine ⟨_, rfl, _, rfl, c, _, rfl, .inl (SqL.of hc2), _, _, rfl, rfl, _, rfl, ?_⟩
        refine ite2 (fun _ => ?_) (fun _ => ?_)
        · refine ⟨_, rfl, _, _, rfl, rfl, ⟨by decide, by decide, by decide⟩, _, _, rfl, rfl, _, rfl, ?_⟩
          refine ite2 (fun _ => ?_) (fun _ => ?_)
          · exact ⟨_, rfl, _, _, rfl, rfl, ⟨by decide, by decide, by decide⟩, _, _, rfl, rfl, k _ _ k2⟩
          · exact ⟨rfl, rfl⟩
        · exact iteF ⟨rfl, rfl⟩
      · rintro σ H3 ⟨rfl, rfl⟩
        refine ⟨_, rfl, _, _, rfl, rfl, .inr ⟨by decide, by decide⟩, _, rfl, _, _, rfl, rfl, .inl ⟨by decide, by decide⟩, _, _, rfl, rfl, _, _, rfl, rfl, .inl ⟨_, rfl, ?_⟩⟩
        refine ⟨_, rfl, _, _, rfl, rfl, (by show (0 : Int) < 2305843009213693951; decide), ?_⟩
        refine ⟨_, rfl, ?_⟩
        refine ⟨6, rfl, by decide, by decide, for_range (n := 6) (fun _ σ H' => H' = H3 ∧ ∃ (st fo : Int) (v : Option V), 0 ≤ st ∧ st < 2305843009213693951 ∧ σ = [some (.ref p), some (.int i), some (.ref c), some (.int z), some (.int 2305843009213693951), some (.int st), some (.int fo), v]) ⟨rfl, _, _, _, Int.emod_nonneg _ (by decide), Int.emod_lt_of_pos _ (by decide), rfl⟩ ?_ ?_⟩
        · rintro i' σ H4 hi ⟨rfl, st, fo, v, h0, h1, rfl⟩
          refine ⟨_, rfl, _, rfl, _, _, rfl, rfl, .inl ⟨by omega, by omega⟩, _, rfl, _, _, rfl, rfl, _, _, rfl, rfl, .inl ⟨by decide, by decide⟩, _, rfl, _, _, rfl, rfl, _, _, rfl, rfl, .inl ⟨by omega, by omega⟩, _, _, rfl, rfl, _, rfl, _, _, rfl, rfl, .inl ⟨_, rfl, ?_⟩⟩
          refine ⟨_, rfl, _, _, rfl, rfl, (by show (0 : Int) < 2305843009213693951; decide), ?_⟩
          refine ⟨_, rfl, _, rfl, _, _, rfl, rfl, .inr prime_ok, _, rfl, _, _, rfl, rfl, ?_⟩
          exact ⟨rfl, _, _, _, Int.emod_nonneg _ (by decide), Int.emod_lt_of_pos _ (by decide), rfl⟩
        · rintro σ H4 ⟨rfl, st, fo, v, h0, h1, rfl⟩
          exact ⟨_, rfl, k _ _ k2⟩
theorem cal_draw (F : C8.Def K mg "_law_draw" st_law_draw f fd) (b : Binds K fd ["pen", "bound"] []) (B : BN mg) (Cf : Cal P w K mg base 1 "_law_fresh" spFresh []) : Cal P w K mg base 2 "_law_draw" spDraw [] := by
  refine cal0 F b .nil sc_draw (fun vs H Q E h => ?_) (fun cdv A outer s H vs Q E hr h => ?_)
  · obtain ⟨p, c, n, rfl, _⟩ := h
    rfl
  · obtain ⟨p, c, n, rfl, hP, h0, h9, k⟩ := h
    refine ⟨_, pss_cut (ps_if (pt_cmpR op_lt (pe_ix ix_list (pv 0) pe_int (fun _ _ => rfl)) (pv 1) (nomark _)) (pss_one (ps_asg (pe_c Cf hr (by decide) (by rfl) (pa_cons (pv 0) pa_nil)) (pg_sub (pv 0) pe_int set_list))) pss_nil)
      (pss_cons (ps_set (i := 2) sc_draw.nd rfl (Or.inl rfl) (pe_op op_mod (pe_callTy call_int1 (by rfl) B.int (by decide +kernel) (pa_cons (pe_ix ix_list (pv 0) pe_int (fun _ _ => rfl)) pa_nil)) (pv 1)))
      (pss_cons (ps_asg (pe_op op_fdivW (pe_callTy call_int1 (by rfl) B.int (by decide +kernel) (pa_cons (pe_ix ix_list (pv 0) pe_int (fun _ _ => rfl)) pa_nil)) (pv 1)) (pg_sub (pv 0) pe_int set_list))
      (pss_one (ps_ret (pv 2))))), ?_⟩
    refine ⟨fun σ H' => σ = [some (.ref p), some (.int n), none] ∧ Kp p c H H', ?_, ?_⟩
    · obtain ⟨ns, i, j, hp, hc⟩ := id hP
      refine ⟨_, rfl, p, _, _, _, rfl, rfl, SqL.of hp, atI_nat (j := 2) rfl, _, rfl, _, _, rfl, rfl, _, rfl, ?_⟩
      refine ite2 (fun _ => ?_) (fun _ => ?_)
      · refine ⟨_, rfl, p, c, rfl, hP, fun z H1 k1 => ?_⟩
        obtain ⟨ns1, i1, j1, hp1, hc1⟩ := k1.pen
        refine ⟨_, rfl, p, _, _, 2, rfl, rfl, hp1, rfl, rfl, k1.trans ⟨fun b o n e => by rw [upd_ne n]; exact e, ns1, i1, z, upd_same, ?_⟩⟩
        rw [upd_ne (pen_ne hp1 hc1).symm]
        exact hc1
      · exact ⟨rfl, Kp.rfl' hP⟩
    · rintro σ H1 ⟨rfl, k1⟩
      obtain ⟨ns, i, j, hp, hc⟩ := k1.pen
      refine ⟨_, rfl, p, _, _, _, rfl, rfl, SqL.of hp, atI_nat (j := 2) rfl, .inl ⟨_, rfl, _, rfl, _, _, rfl, rfl, h0, ?_⟩⟩
      refine ⟨_, rfl, p, _, _, _, rfl, rfl, SqL.of hp, atI_nat (j := 2) rfl, .inl ⟨_, rfl, _, rfl, _, _, rfl, rfl, ⟨h0, h9⟩, _, rfl, p, _, _, 2, rfl, rfl, hp, rfl, ?_⟩⟩
      refine ⟨_, rfl, k _ _ (Int.emod_nonneg _ (by omega)) (Int.emod_lt_of_pos _ h0) (k1.trans ⟨fun b o n e => by rw [upd_ne n]; exact e, ns, i, j / n, upd_same, ?_⟩)⟩
      rw [upd_ne (pen_ne hp hc).symm]
      exact hc
end

/-! ### one of some things; texts, words -/
/-- a part of a list that is not the pen, or a sign of a text -/
def spOne (K : PySem.W.Frag) : Sp := fun vs H Q _ => ∃ p c : Addr, Pen H p c ∧
  ((∃ (a : Addr) (xs : List V), vs = [.ref p, .ref a] ∧ a ≠ p ∧ SqL K H a xs ∧ 0 < xs.length ∧ xs.length < 1000 ∧ ∀ (x : V) H', x ∈ xs → Kp p c H H' → Q x H') ∨
   (∃ z : Str, vs = [.ref p, .str z] ∧ 0 < z.length ∧ z.length < 1000 ∧ ∀ (g : Nat) H', g ∈ z.cps.toList → Kp p c H H' → Q (.str ⟨#[g]⟩) H'))
theorem sc_one : FnScope ["pen", "rows"] ["pen", "rows"] (fnScope st_law_one_of) := fnScope_by (by decide +kernel)
theorem log_small {b : Int} (h0 : 0 < b) (h : b < 1000) : b.natAbs.log2 < 9000 := by
  have h1 : b.natAbs ≠ 0 := by omega
  rw [Nat.log2_lt h1]
  exact Nat.lt_of_lt_of_le (show b.natAbs < 2 ^ 10 by omega) (Nat.pow_le_pow_right (by decide) (by decide))

/-- a text of small letters, not longer than n -/
structure Tx (n : Nat) (z : Str) : Prop where
  len : z.length ≤ n
  low : ∀ c ∈ z.cps.toList, 97 ≤ c ∧ c ≤ 122
def spPiece : Sp := fun vs H Q _ => ∃ (p c : Addr) (m : Nat), vs = [.ref p, .int m] ∧ Pen H p c ∧ 0 < m ∧ m < 900 ∧
  ∀ (z : Str) H', 0 < z.length → Tx m z → Kp p c H H' → Q (.str z) H'
def abc : List Str := ["ab", "ab", "a", "abc", "abcdefghijklmnopqrstuvwxyz"]
theorem abc_low : ∀ z ∈ abc, 0 < z.length ∧ z.length < 1000 ∧ ∀ c ∈ z.cps.toList, 97 ≤ c ∧ c ≤ 122 := by decide +kernel
/-- texts joined: their signs one behind the other -/
theorem join_nil : ∀ l : List (List Nat), TL.joinL [] l = l.flatten
  | [] => rfl
  | [x] => by
    show x = [x].flatten
    rw [List.flatten_cons, List.flatten_nil, List.append_nil]
  | x :: z :: r => by
    show x ++ ([] ++ TL.joinL [] (z :: r)) = (x :: z :: r).flatten
    rw [List.nil_append, join_nil (z :: r), List.flatten_cons (l := x)]
theorem join_cps (ys : List Str) : (Txt.join "" ys).cps.toList = (ys.map fun y => y.cps.toList).flatten := by
  have e : TL.tl (Txt.join "" ys) = TL.joinL (TL.tl "") (ys.map TL.tl) := (congrArg TL.tl (TL.join_eq "" ys)).trans (TL.tl_join "" ys)
  exact e.trans (join_nil _)
theorem join_len (ys : List Str) : (Txt.join "" ys).length = (ys.map (·.length)).sum := by
  have e : (Txt.join "" ys).length = (Txt.join "" ys).cps.toList.length := (Array.length_toList).symm
  rw [e, join_cps, List.length_flatten, List.map_map]
  exact congrArg List.sum (List.map_congr_left fun y _ => Array.length_toList)
theorem lens_one : ∀ ys : List Str, (∀ y ∈ ys, y.length = 1) → (ys.map (·.length)).sum = ys.length
  | [], _ => rfl
  | y :: r, h => by
    rw [List.map_cons, List.sum_cons, h y List.mem_cons_self, lens_one r fun z hz => h z (List.mem_cons_of_mem _ hz), List.length_cons]
    omega
section
variable {P : Program} {w : World} {K : PySem.W.Frag} {mg : Str → Option Value} {base : Heap} {f : Addr} {fd : FuncData}
theorem cal_one (F : C8.Def K mg "_law_one_of" st_law_one_of f fd) (b : Binds K fd ["pen", "rows"] []) (B : BN mg) (Cd : Cal P w K mg base 2 "_law_draw" spDraw []) : Cal P w K mg base 3 "_law_one_of" (spOne K) [] := by
  refine cal0 F b .nil sc_one (fun vs H Q E h => ?_) (fun cdv A outer s H vs Q E hr h => ?_)
  · obtain ⟨p, c, _, h⟩ := h
    rcases h with ⟨a, xs, rfl, _⟩ | ⟨z, rfl, _⟩ <;> rfl
  · obtain ⟨p, c, hP, h⟩ := h
    refine ⟨_, pss_one (ps_ret (pe_ix (IxR.or ix_list ix_str) (pv 1) (pe_c Cd hr (by decide) (by rfl) (pa_cons (pv 0) (pa_cons (pe_callB (CallR.or call_len_seq call_len_str) (by rfl) B.len PySem.boot_len (pa_cons (pv 1) pa_nil)) pa_nil))) (fun _ _ => rfl))), ?_⟩
    rcases h with ⟨a, xs, rfl, na, hS, h0, h1, k⟩ | ⟨z, rfl, h0, h1, k⟩
    · refine ⟨_, rfl, _, rfl, _, rfl, .inl ⟨a, xs, rfl, .inl hS, p, c, _, rfl, hP, by omega, log_small (by omega) (by omega), fun d H1 d0 d1 k1 => ?_⟩⟩
      obtain ⟨u, rfl⟩ : ∃ u : Nat, d = (u : Int) := ⟨_, (Int.toNat_of_nonneg d0).symm⟩
      have hlt : u < xs.length := by omega
      exact .inl ⟨a, xs, _, xs[u], rfl, rfl, k1.seqL na hS, atI_nat (List.getElem?_eq_getElem hlt), k _ _ (List.getElem_mem hlt) k1⟩
    · refine ⟨_, rfl, _, rfl, _, rfl, .inr ⟨z, rfl, Nat.le_of_lt (Nat.lt_of_lt_of_le h1 (by decide)), p, c, _, rfl, hP, by omega, log_small (by omega) (by omega), fun d H1 d0 d1 k1 => ?_⟩⟩
      obtain ⟨u, rfl⟩ : ∃ u : Nat, d = (u : Int) := ⟨_, (Int.toNat_of_nonneg d0).symm⟩
      have hlt : u < z.cps.toList.length := by
        rw [Array.length_toList]
        have e : z.length = z.cps.size := rfl
        omega
      exact .inr ⟨z, _, z.cps.toList[u], rfl, rfl, Nat.le_of_lt (Nat.lt_of_lt_of_le h1 (by decide)), atI_nat (List.getElem?_eq_getElem hlt), k _ _ (List.getElem_mem hlt) k1⟩
end

/-! ### a drawn text -/
theorem sc_piece : FnScope ["pen", "most", "letters", "lap"] ["pen", "most"] (fnScope st_law_piece) := fnScope_by (by decide +kernel)
section
variable {P : Program} {w : World} {K : PySem.W.Frag} {mg : Str → Option Value} {base : Heap} {f : Addr} {fd : FuncData}
theorem cal_piece (F : C8.Def K mg "_law_piece" st_law_piece f fd) (b : Binds K fd ["pen", "most"] []) (B : BN mg) (Cd : Cal P w K mg base 2 "_law_draw" spDraw []) (Co : Cal P w K mg base 3 "_law_one_of" (spOne K) []) : Cal P w K mg base 4 "_law_piece" spPiece [] := by
  refine cal0 F b .nil sc_piece (fun vs H Q E h => ?_) (fun cdv A outer s H vs Q E hr h => ?_)
  · obtain ⟨p, c, m, rfl, _⟩ := h
    rfl
  · obtain ⟨p, c, m, rfl, hP, m0, m9, k⟩ := h
    refine ⟨_, pss_cons (ps_set (i := 2) sc_piece.nd rfl (Or.inr rfl) (pe_c Co hr (by decide) (by rfl) (pa_cons (pv 0) (pa_cons (pe_lst (pa_cons pe_str (pa_cons pe_str (pa_cons pe_str (pa_cons pe_str (pa_cons pe_str pa_nil)))))) pa_nil))))
      (pss_one (ps_ret (pe_join pe_str (pe_lc (own := [("lap", 3)]) (g := gName 3) (tt := tYes) (by rfl) sc_piece.nd (pi_range1 rfl B.range (pa_cons (pe_op op_add pe_int (pe_c Cd hr (by decide) (by rfl) (pa_cons (pv 0) (pa_cons (pv 1) pa_nil)))) pa_nil))
        (blkOk_by (own := [("lap", 3)]) (N := ["pen", "most", "letters", "lap"]) (sc := fnScope st_law_piece) (by decide +kernel)) (fun _ _ _ _ _ => pg_name (i := 3) sc_piece.nd rfl (Or.inl rfl)) (fun _ _ _ _ _ => pts_nil)
        (fun _ _ _ _ _ => pe_c Co hr (by decide) (by rfl) (pa_cons (pv 0) (pa_cons (pv 2) pa_nil))))))), ?_⟩
    refine ⟨_, rfl, (by show 5 ≤ sizeLine; decide), fun a ha => ⟨p, c, hP.new ha, .inl ⟨a, _, rfl, hP.ne ha, SqL.of upd_same, by decide, by decide, fun x H1 hx k1 => ?_⟩⟩⟩
    obtain ⟨z, hz, rfl⟩ : ∃ z ∈ abc, x = V.str z := by
      have hx' : x ∈ abc.map V.str := hx
      obtain ⟨z, h1, h2⟩ := List.mem_map.mp hx'
      exact ⟨z, h1, h2.symm⟩
    obtain ⟨z0, z1, z2⟩ := abc_low z hz
    have kA : Kp p c H H1 := (Kp.new (Kp.rfl' hP) ha).trans k1
    refine ⟨⟨_, rfl⟩, ?_⟩
    refine ⟨_, rfl, _, rfl, p, c, m, rfl, kA.pen, by omega, log_small (by omega) (by omega), fun d H2 d0 d1 k2 => ?_⟩
    have kB : Kp p c H H2 := kA.trans k2
    refine ⟨_, _, rfl, rfl, 1 + d, rfl, by omega, by omega, fun D hD => ?_⟩
    refine lc_range (lo := 0) (n := (1 + d).toNat) (fun i H' => Kp p c H H' ∧ ∃ ys : List Str, H' D = some (.lst (ys.map V.str)) ∧ H D = none ∧ ys.length = i ∧ ∀ y ∈ ys, y.length = 1 ∧ ∀ c ∈ y.cps.toList, 97 ≤ c ∧ c ≤ 122)
      ⟨kB.new hD, [], upd_same, kB.free hD, rfl, fun y hy => by cases hy⟩ ?_ ?_
    · rintro i H3 hi ⟨k3, ys, hL, hD0, hl, hy⟩
      refine ⟨rfl, ?_⟩
      refine ⟨_, rfl, _, rfl, p, c, k3.pen, .inr ⟨z, rfl, z0, z1, fun g H4 hg k4 => ?_⟩⟩
      have nD : D ≠ p := hP.ne hD0
      have hL4 : H4 D = some (.lst (ys.map V.str)) := k4.but _ _ nD hL
      refine ⟨_, hL4, ?_, ?_⟩
      · rw [List.length_map]
        exact Nat.lt_of_lt_of_le (show ys.length < 1000 by omega) (by decide)
      · refine ⟨(k3.trans k4).put hP hD0, ys ++ [⟨#[g]⟩], ?_, hD0, ?_, ?_⟩
        · rw [upd_same, List.map_append]
          rfl
        · rw [List.length_append, hl]
          rfl
        · intro y hm
          rcases List.mem_append.mp hm with hm | hm
          · exact hy y hm
          · obtain rfl := List.mem_singleton.mp hm
            exact ⟨rfl, fun c' hc' => by
              obtain rfl : c' = g := by simpa using hc'
              exact z2 _ hg⟩
    · rintro H3 ⟨k3, ys, hL, hD0, hl, hy⟩
      refine ⟨_, D, ys, rfl, rfl, .inl (SqL.of hL), ?_, ?_⟩
      · rw [lens_one ys fun y hy' => (hy y hy').1]
        have e0 : (("" : Str)).length = 0 := by decide
        rw [e0]
        omega
      · refine k _ _ ?_ ⟨?_, ?_⟩ k3
        · rw [join_len, lens_one ys fun y hy' => (hy y hy').1]
          omega
        · rw [join_len, lens_one ys fun y hy' => (hy y hy').1]
          omega
        · intro c' hc'
          rw [join_cps] at hc'
          obtain ⟨l, h1, h2⟩ := List.mem_flatten.mp hc'
          obtain ⟨y, h3, rfl⟩ := List.mem_map.mp h1
          exact (hy y h3).2 _ h2
end

/-! ### recipes: parts, their buffers, their letters -/
inductive Pt where
  | s (z : Str)
  | b (i : Nat)
abbrev Rc := List Pt
def Pt.v : Pt → V
  | .s z => .str z
  | .b i => .int i
def Pt.d : Pt → PyData
  | .s z => .str z
  | .b i => .int i
def Pt.buf : Pt → List Nat
  | .s _ => []
  | .b i => [i]
def Pt.let : Pt → Nat
  | .s z => z.length
  | .b _ => 0
def Pt.low : Pt → Prop
  | .s z => ∀ c ∈ z.cps.toList, 97 ≤ c ∧ c ≤ 122
  | .b _ => True
def bufs (r : Rc) : List Nat := r.flatMap Pt.buf
def lets (r : Rc) : Nat := (r.map Pt.let).sum
def lowR (r : Rc) : Prop := ∀ q ∈ r, q.low
theorem bufs_app (a b : Rc) : bufs (a ++ b) = bufs a ++ bufs b := List.flatMap_append
theorem lets_app (a b : Rc) : lets (a ++ b) = lets a + lets b := by
  unfold lets
  rw [List.map_append, List.sum_append]
theorem lets_one (q : Pt) : lets [q] = q.let := by
  unfold lets
  rw [List.map_cons, List.map_nil, List.sum_cons, List.sum_nil, Nat.add_zero]
theorem bufs_one (q : Pt) : bufs [q] = q.buf := by
  unfold bufs
  rw [List.flatMap_cons, List.flatMap_nil, List.append_nil]
theorem lowR_app {a b : Rc} (h : lowR a) (h2 : lowR b) : lowR (a ++ b) := fun q hq => (List.mem_append.mp hq).elim (h q) (h2 q)
theorem lowR_one {q : Pt} (h : q.low) : lowR [q] := fun x hx => by
  obtain rfl := List.mem_singleton.mp hx
  exact h
theorem low_strOk {z : Str} (h : ∀ c ∈ z.cps.toList, 97 ≤ c ∧ c ≤ 122) : PyData.strOk z = true := by
  unfold PyData.strOk
  rw [← Array.all_toList, List.all_eq_true]
  intro c hc
  have q := (h c hc).2
  exact decide_eq_true (by omega)
theorem low_cat {x y : Str} (h : ∀ c ∈ x.cps.toList, 97 ≤ c ∧ c ≤ 122) (h2 : ∀ c ∈ y.cps.toList, 97 ≤ c ∧ c ≤ 122) : ∀ c ∈ (x ++ y).cps.toList, 97 ≤ c ∧ c ≤ 122 := by
  intro c hc
  rw [Str.cps_append, Array.toList_append] at hc
  exact (List.mem_append.mp hc).elim (h c) (h2 c)
theorem len_cat (x y : Str) : (x ++ y).length = x.length + y.length := by
  show (x ++ y).cps.size = x.cps.size + y.cps.size
  rw [Str.cps_append, Array.size_append]

/-- the parts put together: pieces side by side become one -/
def nstep (f : Rc) : Pt → Rc
  | .b i => f ++ [.b i]
  | .s z => match f.getLast? with
    | some (.s y) => f.dropLast ++ [.s (y ++ z)]
    | _ => if z = "" then f else f ++ [.s z]
def normal (ps : Rc) : Rc := ps.foldl nstep []
theorem nstep_glue (g : Rc) (y z : Str) : nstep (g ++ [.s y]) (.s z) = g ++ [.s (y ++ z)] := by
  unfold nstep
  rw [List.getLast?_concat, List.dropLast_concat]
theorem nstep_behind (g : Rc) (i : Nat) (z : Str) : nstep (g ++ [.b i]) (.s z) = if z = "" then g ++ [.b i] else g ++ [.b i] ++ [.s z] := by
  unfold nstep
  rw [List.getLast?_concat]
theorem nstep_first (z : Str) : nstep [] (.s z) = if z = "" then [] else [.s z] := rfl
theorem len_empty {z : Str} (h : z = "") : z.length = 0 := by
  subst h
  decide
structure NOk (f : Rc) (q : Pt) (g : Rc) : Prop where
  buf : bufs g = bufs f ++ q.buf
  lt : lets g = lets f + q.let
  len : g.length ≤ f.length + 1
  low : lowR f → q.low → lowR g
theorem nok_push (f : Rc) (q : Pt) : NOk f q (f ++ [q]) :=
  ⟨by rw [bufs_app, bufs_one], by rw [lets_app, lets_one], by rw [List.length_append, List.length_singleton]; exact Nat.le_refl _, fun h1 h2 => lowR_app h1 (lowR_one h2)⟩
theorem nok_same (f : Rc) {z : Str} (h : z = "") : NOk f (.s z) f :=
  ⟨(List.append_nil _).symm, by show lets f = lets f + z.length; rw [len_empty h, Nat.add_zero], Nat.le_succ _, fun h1 _ => h1⟩
theorem nok_glue (g : Rc) (y z : Str) : NOk (g ++ [.s y]) (.s z) (g ++ [.s (y ++ z)]) := by
  refine ⟨?_, ?_, ?_, fun h1 h2 => ?_⟩
  · rw [bufs_app, bufs_app, bufs_one, bufs_one]
    show bufs g ++ [] = bufs g ++ [] ++ []
    rw [List.append_nil, List.append_nil]
  · rw [lets_app, lets_app, lets_one, lets_one]
    show lets g + (y ++ z).length = lets g + y.length + z.length
    rw [len_cat, Nat.add_assoc]
  · rw [List.length_append, List.length_append]
    exact Nat.le_succ _
  · refine lowR_app (fun q hq => h1 q (List.mem_append_left _ hq)) (lowR_one ?_)
    exact low_cat (h1 (.s y) (List.mem_append_right _ (List.mem_singleton.mpr rfl))) h2
theorem nstep_ok (f : Rc) (q : Pt) : NOk f q (nstep f q) := by
  cases q with
  | b i => exact nok_push f _
  | s z =>
    rcases List.eq_nil_or_concat f with rfl | ⟨g, l, rfl⟩
    · rw [nstep_first]
      by_cases h : z = ""
      · rw [if_pos h]
        exact nok_same [] h
      · rw [if_neg h]
        exact nok_push [] _
    · rw [List.concat_eq_append]
      cases l with
      | s y =>
        rw [nstep_glue]
        exact nok_glue g y z
      | b i =>
        rw [nstep_behind]
        by_cases h : z = ""
        · rw [if_pos h]
          exact nok_same _ h
        · rw [if_neg h]
          exact nok_push _ _
theorem normal_ok : ∀ (ps f : Rc), bufs (ps.foldl nstep f) = bufs f ++ bufs ps ∧ lets (ps.foldl nstep f) = lets f + lets ps ∧ (ps.foldl nstep f).length ≤ f.length + ps.length ∧ (lowR f → lowR ps → lowR (ps.foldl nstep f))
  | [], f => ⟨(List.append_nil _).symm, rfl, Nat.le_refl _, fun h _ => h⟩
  | q :: r, f => by
    have a := nstep_ok f q
    obtain ⟨h1, h2, h3, h4⟩ := normal_ok r (nstep f q)
    rw [List.foldl_cons]
    refine ⟨?_, ?_, ?_, fun l1 l2 => ?_⟩
    · rw [h1, a.buf, List.append_assoc]
      exact congrArg _ (List.flatMap_cons).symm
    · rw [h2, a.lt, Nat.add_assoc]
      rfl
    · rw [List.length_cons]
      have := a.len
      omega
    · exact h4 (a.low l1 (l2 q List.mem_cons_self)) fun x hx => l2 x (List.mem_cons_of_mem _ hx)
theorem foldl_more {α β : Type} (g : β → α → β) (b : β) {l : List α} {i : Nat} {x : α} (h : l[i]? = some x) : (l.take (i + 1)).foldl g b = g ((l.take i).foldl g b) x := by
  have e : l.take (i + 1) = l.take i ++ [x] := by
    rw [List.take_add_one, h]
    rfl
  rw [e, List.foldl_append]
  rfl
theorem dp_parts {K : PySem.W.Frag} {H : Hp} : ∀ r : Rc, DpAll K H (r.map Pt.v) (r.map Pt.d)
  | [] => .nil
  | .s z :: r => .cons (.str z) (dp_parts r)
  | .b i :: r => .cons (.int i) (dp_parts r)
theorem parts_flat : ∀ r : Rc, lowR r → PyData.canLayAll0 (r.map Pt.d) = true ∧ PyData.depthAll (r.map Pt.d) = 0
  | [], _ => ⟨by simp only [List.map_nil, PyData.canLayAll0], by simp only [List.map_nil, PyData.depthAll]⟩
  | .s z :: r, h => by
    obtain ⟨h1, h2⟩ := parts_flat r fun q hq => h q (List.mem_cons_of_mem _ hq)
    have h3 : PyData.strOk z = true := low_strOk (h (.s z) List.mem_cons_self)
    exact ⟨by simp only [List.map_cons, Pt.d, PyData.canLayAll0, PyData.canLay0, h1, h3, Bool.and_self], by simp only [List.map_cons, Pt.d, PyData.depthAll, PyData.depth, h2, Nat.max_self]⟩
  | .b i :: r, h => by
    obtain ⟨h1, h2⟩ := parts_flat r fun q hq => h q (List.mem_cons_of_mem _ hq)
    exact ⟨by simp only [List.map_cons, Pt.d, PyData.canLayAll0, PyData.canLay0, h1, Bool.and_self], by simp only [List.map_cons, Pt.d, PyData.depthAll, PyData.depth, h2, Nat.max_self]⟩
theorem shaped_parts (r : Rc) (h : lowR r) : SeqAt.shaped (.list (r.map Pt.d)) = true := by
  obtain ⟨h1, h2⟩ := parts_flat r h
  unfold SeqAt.shaped
  simp only [PyData.canLay0, PyData.depth, h1, h2, Bool.true_and]
  decide
theorem list_ne_nil (ds : List PyData) : (!PyData.eqv (.list ds) (.list [])) = !ds.isEmpty := by
  cases ds with
  | nil => simp only [PyData.eqv, PyData.eqvAll, List.isEmpty_nil]
  | cons a r => simp only [PyData.eqv, PyData.eqvAll, List.isEmpty_cons]

/-- more built-in names -/
structure BN2 (mg : Str → Option Value) : Prop extends BN mg where
  tuple : mg "tuple" = none
  isi : mg "isinstance" = none
  str : mg "str" = none

def spNormal (K : PySem.W.Frag) : Sp := fun vs H Q _ => ∃ (a : Addr) (ps : Rc), vs = [.ref a] ∧ SqL K H a (ps.map Pt.v) ∧ ps.length ≤ 1000 ∧ lets ps ≤ 100000 ∧ lowR ps ∧
  ∀ t H', Same H H' → H t = none → H' t = some (.tup ((normal ps).map Pt.v)) → Q (.ref t) H'
/-- isinstance(part, str) -/
theorem isi_pt {K : PySem.W.Frag} {H : Hp} (q : Pt) : ∃ (t : Value) (b : Bool), TyX K H q.v t ∧ PySem.W.kitOne K t (.type "str") = some b ∧ (b = true → ∃ z, q = .s z) ∧ (b = false → ∃ i, q = .b i) := by
  cases q with
  | s z => exact ⟨_, true, .base (.str z), kit_ty (by decide +kernel), fun _ => ⟨z, rfl⟩, fun h => (by cases h)⟩
  | b i => exact ⟨_, false, .base (.int i), kit_ty (by decide +kernel), fun h => (by cases h), fun _ => ⟨i, rfl⟩⟩

/-! ### parts put together -/
theorem sc_normal : FnScope ["parts", "found", "part"] ["parts"] (fnScope st_law_normal) := fnScope_by (by decide +kernel)
section
variable {P : Program} {w : World} {K : PySem.W.Frag} {mg : Str → Option Value} {base : Heap} {f : Addr} {fd : FuncData}
theorem cal_normal (F : C8.Def K mg "_law_normal" st_law_normal f fd) (b : Binds K fd ["parts"] []) (B : BN2 mg) : Cal P w K mg base 1 "_law_normal" (spNormal K) [] := by
  refine cal0 F b .nil sc_normal (fun vs H Q E h => ?_) (fun cdv A outer s H vs Q E hr h => ?_)
  · obtain ⟨a, ps, rfl, _⟩ := h
    rfl
  · obtain ⟨a, ps, rfl, hS, hlen, hlets, hlow, k⟩ := h
    refine ⟨_, pss_cons (ps_set (i := 1) sc_normal.nd rfl (Or.inl rfl) (pe_lst pa_nil))
      (pss_cons (ps_for PassesOwn.never rfl (pi_list (pv 0)) (pg_name (i := 2) sc_normal.nd rfl (Or.inl rfl))
        (pss_one (ps_if (PW.pt (pw_and (pt_val (pe_callB call_isi (by rfl) B.isi (by decide +kernel) (pa_cons (pv 2) (pa_cons (pe_bltn (v := .ty "str") (by rfl) B.str (by decide +kernel) rfl) pa_nil))))
            (pw_and (pt_cmpR (op_neD hr.units) (pv 1) (pe_lst pa_nil) (nomark _)) (pw_and1 (pt_val (pe_callB call_isi (by rfl) B.isi (by decide +kernel) (pa_cons (pe_ix ix_list (pv 1) (pe_un un_neg pe_int) (fun _ _ => rfl)) (pa_cons (pe_bltn (v := .ty "str") (by rfl) B.str (by decide +kernel) rfl) pa_nil))))))))
          (pss_one (ps_asg (pe_op op_add_str (pe_ix ix_list (pv 1) (pe_un un_neg pe_int) (fun _ _ => rfl)) (pv 2)) (pg_sub (pv 1) (pe_un un_neg pe_int) set_list)))
          (pss_one (ps_if (pt_cmpR op_ne (pv 2) pe_str (nomark _)) (pss_one (ps_expr (pe_bm PySem.F.plainAttrs_list PySem.F.slot_list_append PySem.F.type_list_append mt_append (pv 1) (pa_cons (pv 2) pa_nil)))) pss_nil)))))
      (pss_one (ps_ret (pe_callTy call_tuple_of (by rfl) B.tuple (by decide +kernel) (pa_cons (pv 1) pa_nil))))), ?_⟩
    refine ⟨Nat.zero_le _, fun q hq => ?_⟩
    have inv : ∀ i, bufs ((ps.take i).foldl nstep []) = bufs (ps.take i) ∧ lets ((ps.take i).foldl nstep []) ≤ 100000 ∧ ((ps.take i).foldl nstep []).length ≤ 1000 ∧ lowR ((ps.take i).foldl nstep []) := fun i => by
      obtain ⟨h1, h2, h3, h4⟩ := normal_ok (ps.take i) []
      have e : lets ps = lets (ps.take i) + lets (ps.drop i) := by rw [← lets_app, List.take_append_drop]
      refine ⟨h1, ?_, ?_, h4 (fun q hq => by cases hq) fun q hq => hlow q (List.mem_of_mem_take hq)⟩
      · rw [h2]
        show 0 + lets (ps.take i) ≤ 100000
        omega
      · have := List.length_take_le i ps
        simp only [List.length_nil] at h3
        have h5 : (ps.take i).length ≤ ps.length := by rw [List.length_take]; omega
        omega
    refine ⟨_, rfl, a, rfl, ⟨_, (show SqL K (upd H q (.lst [])) a (ps.map Pt.v) from Same.seq (fun b o e => by rw [upd_ne (ne_of_none e hq)]; exact e) hS)⟩, for_list (K := K) (a := a) (xs := ps.map Pt.v)
      (fun i σ H' => (∃ v : Option V, σ = [some (.ref a), some (.ref q), v]) ∧ Same H H' ∧ H' q = some (.lst (((ps.take i).foldl nstep []).map Pt.v)))
      ⟨⟨none, rfl⟩, fun b o e => by rw [upd_ne (ne_of_none e hq)]; exact e, upd_same⟩ (fun i σ H' _ h => h.2.1.seq hS) ?_ ?_⟩
    · rintro i x σ H1 hi ⟨⟨v, rfl⟩, s1, hL⟩
      obtain ⟨y, hy, rfl⟩ : ∃ y, ps[i]? = some y ∧ x = Pt.v y := by
        rw [List.getElem?_map] at hi
        cases e : ps[i]? with
        | none =>
          rw [e] at hi
          cases hi
        | some y =>
          rw [e] at hi
          exact ⟨y, rfl, (Option.some.inj hi).symm⟩
      have step := foldl_more nstep [] hy
      obtain ⟨_, v2, v3, v4⟩ := inv i
      have ylow : y.low := hlow y (List.mem_of_getElem? hy)
      generalize hf : (ps.take i).foldl nstep [] = g at *
      rw [step]
      have push : ∀ (H2 : Hp), Same H H2 → H2 q = some (.lst (g.map Pt.v)) → nstep g y = g ++ [y] → (Same H (upd H2 q (.lst (g.map Pt.v ++ [y.v])))) ∧ upd H2 q (.lst (g.map Pt.v ++ [y.v])) q = some (.lst ((nstep g y).map Pt.v)) := fun H2 s2 _ e => by
        refine ⟨fun b o hb => by rw [upd_ne (ne_of_none hb hq)]; exact s2 b o hb, ?_⟩
        rw [upd_same, e, List.map_append]
        rfl
      obtain ⟨ty, tb, t1, t2, t3, t4⟩ := isi_pt (K := K) (H := H1) y
      refine ⟨_, rfl, y.v, _, ty, _, tb, rfl, .ty _, t1, t2, _, rfl, ?_⟩
      cases tb with
      | false =>
        obtain ⟨j, rfl⟩ := t4 rfl
        refine iteF (iteF ?_)
        refine ⟨_, rfl, rfl, _, rfl, ?_⟩
        have ne : (V.int (j : Nat) ≠ V.str "") := fun e => by cases e
        refine iteT' (by show (!decide (V.int (j : Nat) = V.str "")) = true; rw [decide_eq_false ne]; rfl) ?_
        refine ⟨_, rfl, .inl ⟨rfl, _, SqL.of hL⟩, _, rfl, q, _, _, rfl, rfl, hL, ?_, ?_⟩
        · rw [List.length_map]
          exact Nat.lt_of_le_of_lt v3 (by decide)
        · obtain ⟨a1, a2⟩ := push H1 s1 hL rfl
          exact ⟨⟨_, rfl⟩, a1, a2⟩
      | true =>
        obtain ⟨z, rfl⟩ := t3 rfl
        refine iteT ?_
        refine ⟨_, rfl, Nat.zero_le _, fun e he => ?_⟩
        have hL2 : upd H1 e (.lst []) q = some (.lst (g.map Pt.v)) := by
          rw [upd_ne (ne_of_none hL he)]
          exact hL
        have s2 : Same H (upd H1 e (.lst [])) := fun b o hb => by
          rw [upd_ne (ne_of_none (s1 b o hb) he)]
          exact s1 b o hb
        refine ⟨.list (g.map Pt.d), .list [], .lst (SqL.of hL2) (dp_parts g), .lst (SqL.of upd_same) .nil, shaped_parts g v4, by decide, _, rfl, ?_⟩
        rw [list_ne_nil]
        -- the elif: a piece behind no piece
        have elif : nstep g (.s z) = (if z = "" then g else g ++ [.s z]) → (tIfS (tTest (tOp rNe (tVar 2) (tC (.str "")))) (tDrop (tBM K "list" rAppend (tVar 1) (tCons (tVar 2) tNil))) tNext)
            { nx := fun σ H' => (∃ v : Option V, σ = [some (.ref a), some (.ref q), v]) ∧ Same H H' ∧ H' q = some (.lst ((nstep g (.s z)).map Pt.v)), rt := Q, ct := fun σ H' => (∃ v : Option V, σ = [some (.ref a), some (.ref q), v]) ∧ Same H H' ∧ H' q = some (.lst ((nstep g (.s z)).map Pt.v)), bk := fun _ _ => True }
            [some (.ref a), some (.ref q), some (.str z)] (upd H1 e (.lst [])) := fun en => by
          refine ⟨_, rfl, rfl, _, rfl, ?_⟩
          by_cases hz : z = ""
          · subst hz
            refine iteF' (by show (!decide (V.str "" = V.str "")) = false; rw [decide_eq_true rfl]; rfl) ?_
            refine ⟨⟨_, rfl⟩, s2, ?_⟩
            rw [hL2, en, if_pos rfl]
          · have ne : (V.str z ≠ V.str "") := fun e => hz (by injection e)
            refine iteT' (by show (!decide (V.str z = V.str "")) = true; rw [decide_eq_false ne]; rfl) ?_
            refine ⟨_, rfl, .inl ⟨rfl, _, SqL.of hL2⟩, _, rfl, q, _, _, rfl, rfl, hL2, ?_, ?_⟩
            · rw [List.length_map]
              exact Nat.lt_of_le_of_lt v3 (by decide)
            · rw [if_neg hz] at en
              obtain ⟨a1, a2⟩ := push _ s2 hL2 en
              exact ⟨⟨_, rfl⟩, a1, a2⟩
        rcases List.eq_nil_or_concat g with rfl | ⟨g', l, rfl⟩
        · refine iteF (iteF ?_)
          exact elif (nstep_first z)
        · rw [List.concat_eq_append] at *
          have en : (List.map Pt.d (g' ++ [l])).isEmpty = false := by
            rw [List.map_append]
            cases List.map Pt.d g' <;> rfl
          rw [en]
          refine iteT ?_
          have hL3 : upd H1 e (.lst []) q = some (.lst (g'.map Pt.v ++ [l.v])) := by
            rw [hL2, List.map_append]
            rfl
          obtain ⟨ty2, tb2, u1, u2, u3, u4⟩ := isi_pt (K := K) (H := upd H1 e (.lst [])) l
          refine ⟨_, rfl, _, rfl, q, _, _, l.v, rfl, rfl, SqL.of hL3, atI_last _ _, l.v, _, ty2, _, tb2, rfl, .ty _, u1, u2, _, rfl, ?_⟩
          cases tb2 with
          | false =>
            obtain ⟨j, rfl⟩ := u4 rfl
            refine iteF ?_
            exact elif (nstep_behind g' j z)
          | true =>
            obtain ⟨y', rfl⟩ := u3 rfl
            refine iteT ?_
            have hsz : y'.length + z.length ≤ sizeLine := by
              have e1 : lets (g' ++ [.s y']) = lets g' + y'.length := by rw [lets_app, lets_one]; rfl
              have e2 := (inv (i + 1)).2.1
              rw [step, nstep_glue, lets_app, lets_one] at e2
              have e3 : (Pt.s (y' ++ z)).let = y'.length + z.length := len_cat y' z
              exact Nat.le_trans (show y'.length + z.length ≤ 100000 by omega) (by decide)
            refine ⟨_, rfl, _, rfl, q, _, _, .str y', rfl, rfl, SqL.of hL3, atI_last _ _, _, rfl, y', z, rfl, rfl, hsz, _, rfl, _, rfl, q, _, _, g'.length, rfl, rfl, hL3, ?_, ?_⟩
            · rw [List.length_append, List.length_map, List.length_singleton]
              unfold ixN
              rw [if_neg (by omega), if_pos (by omega)]
              exact congrArg some (by omega)
            · refine ⟨⟨_, rfl⟩, fun b o hb => by rw [upd_ne (ne_of_none hb hq)]; exact s2 b o hb, ?_⟩
              rw [upd_same, nstep_glue, List.map_append]
              refine congrArg some (congrArg HO.lst ?_)
              rw [List.set_append_right _ _ (by rw [List.length_map]; exact Nat.le_refl _), List.length_map, Nat.sub_self]
              rfl
    · rintro σ H1 ⟨⟨v, rfl⟩, s1, hL⟩
      rw [List.length_map, List.take_length] at hL
      refine ⟨_, rfl, q, _, rfl, .inl ⟨SqL.of hL, fun t ht => ?_⟩⟩
      refine k t _ (fun b o e => by rw [upd_ne (ne_of_none (s1 b o e) ht)]; exact s1 b o e) (s1.free ht) upd_same
end

/-! ### tuples over tuples, as data -/
mutual
inductive Tp (H : Hp) : V → PyData → Prop
  | non : Tp H .non .none
  | bl (b : Bool) : Tp H (.bl b) (.bool b)
  | int (i : Int) : Tp H (.int i) (.int i)
  | str (x : Str) : Tp H (.str x) (.str x)
  | tup {a : Addr} {xs : List V} {ds : List PyData} : H a = some (.tup xs) → TpAll H xs ds → Tp H (.ref a) (.tuple ds)
inductive TpAll (H : Hp) : List V → List PyData → Prop
  | nil : TpAll H [] []
  | cons {v : V} {vs : List V} {d : PyData} {ds : List PyData} : Tp H v d → TpAll H vs ds → TpAll H (v :: vs) (d :: ds)
end
/-- all tuples stand -/
def TK (H H' : Hp) : Prop := ∀ b xs, H b = some (.tup xs) → H' b = some (.tup xs)
theorem TK.trans {H H1 H2 : Hp} (a : TK H H1) (b : TK H1 H2) : TK H H2 := fun x o e => b x o (a x o e)
mutual
theorem Tp.mono {H H' : Hp} (k : TK H H') : ∀ {v : V} {d : PyData}, Tp H v d → Tp H' v d
  | _, _, .non => .non
  | _, _, .bl b => .bl b
  | _, _, .int i => .int i
  | _, _, .str x => .str x
  | _, _, .tup h hs => .tup (k _ _ h) (TpAll.mono k hs)
theorem TpAll.mono {H H' : Hp} (k : TK H H') : ∀ {v : List V} {d : List PyData}, TpAll H v d → TpAll H' v d
  | _, _, .nil => .nil
  | _, _, .cons h hs => .cons (Tp.mono k h) (TpAll.mono k hs)
end
mutual
theorem Tp.dp {K : PySem.W.Frag} {H : Hp} : ∀ {v : V} {d : PyData}, Tp H v d → Dp K H v d
  | _, _, .non => .non
  | _, _, .bl b => .bl b
  | _, _, .int i => .int i
  | _, _, .str x => .str x
  | _, _, .tup h hs => .tup (SqT.of h) (TpAll.dp hs)
theorem TpAll.dp {K : PySem.W.Frag} {H : Hp} : ∀ {v : List V} {d : List PyData}, TpAll H v d → DpAll K H v d
  | _, _, .nil => .nil
  | _, _, .cons h hs => .cons (Tp.dp h) (TpAll.dp hs)
end
theorem tp_parts {H : Hp} : ∀ r : Rc, TpAll H (r.map Pt.v) (r.map Pt.d)
  | [] => .nil
  | .s z :: r => .cons (.str z) (tp_parts r)
  | .b i :: r => .cons (.int i) (tp_parts r)
theorem TpAll.map {H : Hp} {α : Type} {g : α → V} {e : α → PyData} : ∀ {l : List α}, (∀ x ∈ l, Tp H (g x) (e x)) → TpAll H (l.map g) (l.map e)
  | [], _ => .nil
  | x :: r, h => .cons (h x List.mem_cons_self) (TpAll.map fun y hy => h y (List.mem_cons_of_mem _ hy))
theorem TpAll.app {H : Hp} {a b : List V} {d e : List PyData} (h : TpAll H a d) (h2 : TpAll H b e) : TpAll H (a ++ b) (d ++ e) := by
  induction a generalizing d with
  | nil =>
    cases h
    exact h2
  | cons v r ih =>
    cases h with
    | cons h1 hr => exact .cons h1 (ih hr)
theorem TpAll.get {H : Hp} : ∀ {vs : List V} {ds : List PyData} {i : Nat} {d : PyData}, TpAll H vs ds → ds[i]? = some d → ∃ v, vs[i]? = some v ∧ Tp H v d
  | _, _, _, _, .nil, h => by simp at h
  | _, _, 0, _, .cons h _, e => by
    simp at e
    subst e
    exact ⟨_, rfl, h⟩
  | _, _, i + 1, _, .cons _ hs, e => by
    have e' : _ := e
    rw [List.getElem?_cons_succ] at e'
    obtain ⟨v, h1, h2⟩ := TpAll.get hs e'
    exact ⟨v, by rw [List.getElem?_cons_succ]; exact h1, h2⟩
theorem TpAll.len {H : Hp} : ∀ {vs : List V} {ds : List PyData}, TpAll H vs ds → vs.length = ds.length
  | _, _, .nil => rfl
  | _, _, .cons _ hs => by rw [List.length_cons, List.length_cons, TpAll.len hs]
theorem Same.tk {H H' : Hp} (s : Same H H') : TK H H' := fun b xs e => s b _ e
theorem Kp.tk {p c : Addr} {H H' : Hp} (k : Kp p c H H') (hP : Pen H p c) : TK H H' := fun b xs e => by
  obtain ⟨ns, i, j, h1, _⟩ := hP
  exact k.but b _ (ne_of e h1 (by intro z; cases z)) e
theorem tk_new {H : Hp} {q : Addr} {o : HO} (hq : H q = none) : TK H (upd H q o) := fun b xs e => by
  rw [upd_ne (ne_of_none e hq)]
  exact e
theorem tk_lst {H : Hp} {q : Addr} {ys : List V} {o : HO} (hq : H q = some (.lst ys)) : TK H (upd H q o) := fun b xs e => by
  rw [upd_ne (ne_of e hq (by intro z; cases z))]
  exact e
theorem same_new {H : Hp} {q : Addr} {o : HO} (hq : H q = none) : Same H (upd H q o) := fun b u e => by
  rw [upd_ne (ne_of_none e hq)]
  exact e
theorem Pen.same {H H' : Hp} {p c : Addr} (h : Pen H p c) (s : Same H H') : Pen H' p c := by
  obtain ⟨ns, i, j, h1, h2⟩ := h
  exact ⟨ns, i, j, s _ _ h1, s _ _ h2⟩
theorem Kp.same {H H1 H2 : Hp} {p c : Addr} (k : Kp p c H H1) (s : Same H1 H2) : Kp p c H H2 := ⟨fun b o n e => s b o (k.but b o n e), k.pen.same s⟩

/-! ### a heap without one list -/
def hide (H : Hp) (l : Addr) : Hp := fun b => if b = l then none else H b
theorem hide_ne {H : Hp} {l b : Addr} (h : b ≠ l) : hide H l b = H b := if_neg h
theorem hide_self {H : Hp} {l : Addr} : hide H l l = none := if_pos rfl
theorem Pen.hide {H : Hp} {p c l : Addr} (h : Pen H p c) (n1 : l ≠ p) (n2 : l ≠ c) : Pen (hide H l) p c := by
  obtain ⟨ns, i, j, h1, h2⟩ := h
  exact ⟨ns, i, j, by rw [hide_ne n1.symm]; exact h1, by rw [hide_ne n2.symm]; exact h2⟩
theorem Kp.hide0 {H : Hp} {p c l : Addr} (h : Pen H p c) : Kp p c (hide H l) H := by
  refine ⟨fun b o n e => ?_, h⟩
  by_cases hb : b = l
  · rw [hb, hide_self] at e
    cases e
  · rw [hide_ne hb] at e
    exact e
theorem Kp.thru {H H1 H2 : Hp} {p c l : Addr} (k1 : Kp p c H H1) (k2 : Kp p c (hide H1 l) H2) (hl : H l = none) : Kp p c H H2 :=
  ⟨fun b o n e => k2.but b o n (by rw [hide_ne (ne_of_none e hl)]; exact k1.but b o n e), k2.pen⟩
theorem Kp.unhide {H H' : Hp} {p c l b : Addr} {o : HO} (k : Kp p c (hide H l) H') (n : b ≠ p) (nl : b ≠ l) (h : H b = some o) : H' b = some o := k.but b o n (by rw [hide_ne nl]; exact h)
theorem Kp.freeH {H H' : Hp} {p c l t : Addr} {o : HO} (k : Kp p c (hide H l) H') (hl : H' l = some o) (ht : H' t = none) : H t = none := by
  have h := k.free ht
  rw [hide_ne (ne_of_none hl ht).symm] at h
  exact h

/-! ### lists of small numbers -/
def iN (ls : List Nat) : List Int := ls.map fun (i : Nat) => (i : Int)
theorem rg_eq (n : Nat) : rgV 0 (n : Int) = (iN (List.range n)).map V.int := by
  unfold rgV iN
  rw [List.map_map]
  have e : ((n : Int) - 0).toNat = n := by omega
  rw [e]
  refine List.map_congr_left fun i _ => ?_
  show V.int (0 + (i : Int)) = V.int (i : Int)
  rw [Int.zero_add]
theorem flat_ints (ns : List Int) : (ns.map V.int).all flatV = true := by
  rw [List.all_eq_true]
  intro x hx
  obtain ⟨z, _, rfl⟩ := List.mem_map.mp hx
  rfl
theorem first_hit {xs : List V} {t : V → Bool} (h : xs.any t = true) : ∃ (j : Nat) (z : V), xs[j]? = some z ∧ t z = true ∧ ∀ (m : Nat) (z' : V), m < j → xs[m]? = some z' → t z' = false := by
  induction xs with
  | nil => cases h
  | cons x r ih =>
    cases hx : t x with
    | true => exact ⟨0, x, rfl, hx, fun m _ hm => absurd hm (Nat.not_lt_zero m)⟩
    | false =>
      rw [List.any_cons, hx, Bool.false_or] at h
      obtain ⟨j, z, h1, h2, h3⟩ := ih h
      refine ⟨j + 1, z, by rw [List.getElem?_cons_succ]; exact h1, h2, fun m z' hm e => ?_⟩
      cases m with
      | zero =>
        obtain rfl : x = z' := Option.some.inj e
        exact hx
      | succ m =>
        rw [List.getElem?_cons_succ] at e
        exact h3 m z' (Nat.lt_of_succ_lt_succ hm) e
theorem erase_map {α β : Type} (g : α → β) : ∀ (l : List α) (k : Nat), (l.map g).eraseIdx k = (l.eraseIdx k).map g
  | [], _ => rfl
  | _ :: _, 0 => rfl
  | x :: r, k + 1 => by
    rw [List.map_cons, List.eraseIdx_cons_succ, List.eraseIdx_cons_succ, List.map_cons, erase_map g r k]

theorem erase_perm {α : Type} : ∀ (l : List α) (k : Nat) (h : k < l.length), (l[k] :: l.eraseIdx k).Perm l
  | x :: r, 0, _ => List.Perm.refl _
  | x :: r, k + 1, h => by
    rw [List.eraseIdx_cons_succ, List.getElem_cons_succ]
    exact (List.Perm.swap x _ _).trans ((erase_perm r k (Nat.lt_of_succ_lt_succ h)).cons x)


/-! ### a drawn recipe -/
def spFill : Sp := fun vs H Q _ => ∃ (p c l : Addr) (ls : List Nat) (own : Int), vs = [.ref p, .ref l, .int own] ∧ Pen H p c ∧ l ≠ p ∧ l ≠ c ∧ H l = some (.lst ((iN ls).map V.int)) ∧ ls.length ≤ 100 ∧
  ∀ (r : Rc) (t : Addr) (ls' : List Nat) H', Kp p c (hide H l) H' → H t = none → H' t = some (.tup (r.map Pt.v)) → H' l = some (.lst ((iN ls').map V.int)) → (bufs r ++ ls').Perm ls → lets r ≤ 10 → lowR r → r.length ≤ 5 → Q (.ref t) H'
theorem sc_fill : FnScope ["pen", "left", "own", "parts", "lap", "at"] ["pen", "left", "own"] (fnScope st_law_fill) := fnScope_by (by decide +kernel)
/-- between two turns: the parts so far at q, what is left at l -/
structure FI (H : Hp) (p c l q : Addr) (ls : List Nat) (n : Nat) (ps : Rc) (ls' : List Nat) (H' : Hp) : Prop where
  kp : Kp p c (hide H l) H'
  hq : H' q = some (.lst (ps.map Pt.v))
  hl : H' l = some (.lst ((iN ls').map V.int))
  perm : (bufs ps ++ ls').Perm ls
  lt : lets ps ≤ 2 * n
  len : ps.length ≤ n
  low : lowR ps
theorem FI.more {H : Hp} {p c l q : Addr} {ls : List Nat} {n m : Nat} {ps : Rc} {ls' : List Nat} {H' : Hp} (h : FI H p c l q ls n ps ls' H') (hm : n ≤ m) : FI H p c l q ls m ps ls' H' :=
  ⟨h.kp, h.hq, h.hl, h.perm, Nat.le_trans h.lt (Nat.mul_le_mul_left 2 hm), Nat.le_trans h.len hm, h.low⟩
theorem FI.drawn {H : Hp} {p c l q : Addr} {ls : List Nat} {n : Nat} {ps : Rc} {ls' : List Nat} {H1 H2 : Hp} (h : FI H p c l q ls n ps ls' H1) (np : q ≠ p) (nl : l ≠ p) (k : Kp p c H1 H2) : FI H p c l q ls n ps ls' H2 :=
  ⟨h.kp.trans k, k.but _ _ np h.hq, k.but _ _ nl h.hl, h.perm, h.lt, h.len, h.low⟩
theorem FI.new {H : Hp} {p c l q e : Addr} {o : HO} {ls : List Nat} {n : Nat} {ps : Rc} {ls' : List Nat} {H1 : Hp} (h : FI H p c l q ls n ps ls' H1) (he : H1 e = none) : FI H p c l q ls n ps ls' (upd H1 e o) :=
  ⟨h.kp.new he, by rw [upd_ne (ne_of_none h.hq he)]; exact h.hq, by rw [upd_ne (ne_of_none h.hl he)]; exact h.hl, h.perm, h.lt, h.len, h.low⟩
/-- a piece put behind -/
theorem FI.piece {H : Hp} {p c l q : Addr} {ls : List Nat} {n : Nat} {ps : Rc} {ls' : List Nat} {H1 : Hp} {z : Str} (hP : Pen (hide H l) p c) (hq : H q = none) (nq : q ≠ l) (h : FI H p c l q ls n ps ls' H1) (hz : Tx 2 z) :
    FI H p c l q ls (n + 1) (ps ++ [.s z]) ls' (upd H1 q (.lst (ps.map Pt.v ++ [.str z]))) := by
  have hq0 : hide H l q = none := by rw [hide_ne nq]; exact hq
  refine ⟨h.kp.put hP hq0, ?_, ?_, ?_, ?_, ?_, ?_⟩
  · rw [upd_same, List.map_append]
    rfl
  · rw [upd_ne nq.symm]
    exact h.hl
  · rw [bufs_app, bufs_one]
    show (bufs ps ++ [] ++ ls').Perm ls
    rw [List.append_nil]
    exact h.perm
  · rw [lets_app, lets_one]
    have a := h.lt
    have b : (Pt.s z).let ≤ 2 := hz.len
    omega
  · rw [List.length_append, List.length_singleton]
    have := h.len
    omega
  · exact lowR_app h.low (lowR_one hz.low)
/-- a buffer taken out of what is left, put behind -/
theorem FI.take {H : Hp} {p c l q : Addr} {ls : List Nat} {n : Nat} {ps : Rc} {ls' : List Nat} {H1 : Hp} {k : Nat} (hP : Pen (hide H l) p c) (hq : H q = none) (nq : q ≠ l) (h : FI H p c l q ls n ps ls' H1) (hk : k < ls'.length) :
    FI H p c l q ls (n + 1) (ps ++ [.b ls'[k]]) (ls'.eraseIdx k) (upd (upd H1 l (.lst (((iN ls').map V.int).eraseIdx k))) q (.lst (ps.map Pt.v ++ [.int ls'[k]]))) := by
  have hq0 : hide H l q = none := by rw [hide_ne nq]; exact hq
  refine ⟨(h.kp.put hP hide_self).put hP hq0, ?_, ?_, ?_, ?_, ?_, ?_⟩
  · rw [upd_same, List.map_append]
    rfl
  · rw [upd_ne nq.symm, upd_same]
    unfold iN
    rw [erase_map, erase_map]
  · rw [bufs_app, bufs_one]
    show (bufs ps ++ [ls'[k]] ++ ls'.eraseIdx k).Perm ls
    rw [List.append_assoc]
    exact ((erase_perm ls' k hk).append_left _).trans h.perm
  · rw [lets_app, lets_one]
    have a := h.lt
    show lets ps + 0 ≤ 2 * (n + 1)
    omega
  · rw [List.length_append, List.length_singleton]
    have := h.len
    omega
  · exact lowR_app h.low (lowR_one True.intro)
theorem menu012 : ∀ z ∈ ([0, 1, 1, 1, 1, 2] : List Int), 0 ≤ z ∧ z ≤ 2 := by decide
section
variable {P : Program} {w : World} {K : PySem.W.Frag} {mg : Str → Option Value} {base : Heap} {f : Addr} {fd : FuncData}
theorem cal_fill (F : C8.Def K mg "_law_fill" st_law_fill f fd) (b : Binds K fd ["pen", "left", "own"] []) (B : BN2 mg) (Cd : Cal P w K mg base 2 "_law_draw" spDraw []) (Co : Cal P w K mg base 3 "_law_one_of" (spOne K) [])
    (Cp : Cal P w K mg base 4 "_law_piece" spPiece []) (Cn : Cal P w K mg base 1 "_law_normal" (spNormal K) []) : Cal P w K mg base 5 "_law_fill" spFill [] := by
  refine cal0 F b .nil sc_fill (fun vs H Q E h => ?_) (fun cdv A outer s H vs Q E hr h => ?_)
  · obtain ⟨p, c, l, ls, own, rfl, _⟩ := h
    rfl
  · obtain ⟨p, c, l, ls, own, rfl, hP, nlp, nlc, hl, hln, k⟩ := h
    refine ⟨_, pss_cons (ps_set (i := 3) sc_fill.nd rfl (Or.inl rfl) (pe_lst pa_nil))
      (pss_cons (ps_for PassesOwn.never rfl (pi_range1 rfl B.range (pa_cons (pe_c Co hr (by decide) (by rfl) (pa_cons (pv 0) (pa_cons (pe_lst (pa_cons pe_int (pa_cons pe_int (pa_cons pe_int (pa_cons pe_int (pa_cons pe_int (pa_cons pe_int pa_nil))))))) pa_nil))) pa_nil)) (pg_name (i := 4) sc_fill.nd rfl (Or.inl rfl))
        (pss_cut (ps_if (pt_cmpR op_eq (pe_c Cd hr (by decide) (by rfl) (pa_cons (pv 0) (pa_cons pe_int pa_nil))) pe_int (nomark _))
            (pss_one (ps_expr (pe_bm PySem.F.plainAttrs_list PySem.F.slot_list_append PySem.F.type_list_append mt_append (pv 3) (pa_cons (pe_c Cp hr (by decide) (by rfl) (pa_cons (pv 0) (pa_cons pe_int pa_nil))) pa_nil)))) pss_nil)
          (pss_one (ps_if (pt_cmpR (op_neD hr.units) (pv 1) (pe_lst pa_nil) (nomark _))
            (pss_cut (ps_set (i := 5) sc_fill.nd rfl (Or.inl rfl) (pe_ifExp (PW.pt (pw_and (pt_cmpR op_in_seq (pv 2) (pv 1) (by with_unfolding_all rfl)) (pw_and1 (pt_cmpR op_gt (pe_c Cd hr (by decide) (by rfl) (pa_cons (pv 0) (pa_cons pe_int pa_nil))) pe_int (nomark _)))))
                (pe_bm PySem.F.plainAttrs_list PySem.F.slot_list_index PySem.F.type_list_index mt_index (pv 1) (pa_cons (pv 2) pa_nil))
                (pe_c Cd hr (by decide) (by rfl) (pa_cons (pv 0) (pa_cons (pe_callB call_len_seq (by rfl) B.len PySem.boot_len (pa_cons (pv 1) pa_nil)) pa_nil)))))
              (pss_one (ps_expr (pe_bm PySem.F.plainAttrs_list PySem.F.slot_list_append PySem.F.type_list_append mt_append (pv 3) (pa_cons (pe_bm PySem.F.plainAttrs_list PySem.F.slot_list_pop PySem.F.type_list_pop mt_popAt (pv 1) (pa_cons (pv 5) pa_nil)) pa_nil))))) pss_nil))))
      (pss_cut (ps_if (pt_cmpR op_eq (pe_c Cd hr (by decide) (by rfl) (pa_cons (pv 0) (pa_cons pe_int pa_nil))) pe_int (nomark _))
            (pss_one (ps_expr (pe_bm PySem.F.plainAttrs_list PySem.F.slot_list_append PySem.F.type_list_append mt_append (pv 3) (pa_cons (pe_c Cp hr (by decide) (by rfl) (pa_cons (pv 0) (pa_cons pe_int pa_nil))) pa_nil)))) pss_nil)
      (pss_one (ps_ret (pe_c Cn hr (by decide) (by rfl) (pa_cons (pv 3) pa_nil)))))), ?_⟩
    have hPh := hP.hide nlp nlc
    refine ⟨Nat.zero_le _, fun q hq => ?_⟩
    have nqp : q ≠ p := hP.ne hq
    have nql : q ≠ l := (ne_of_none hl hq).symm
    have I0 : FI H p c l q ls 0 [] ls (upd H q (.lst [])) := ⟨(Kp.hide0 hP).new hq, upd_same, by rw [upd_ne nql.symm]; exact hl, List.Perm.refl _, Nat.le_refl _, Nat.le_refl _, fun x hx => by cases hx⟩
    -- a piece, perhaps, in both places
    have perhaps : ∀ (n : Nat) (ps : Rc) (ls' : List Nat) (H1 : Hp) (G : Hp → Prop), n ≤ 100 → FI H p c l q ls n ps ls' H1 → (∀ ps' H2, FI H p c l q ls (n + 1) ps' ls' H2 → G H2) →
        ∀ (d : Int) (H2 : Hp), Kp p c H1 H2 → (if decide (V.int d = V.int 0) = true then
          (spPiece [.ref p, .int 2] H2 (fun x H3 => rAppend (.ref q) [x] H3 fun _ H4 => G H4) E0) else G H2) := by
      intro n ps ls' H1 G hn h kG d H2 kk
      have h2 := h.drawn nqp nlp kk
      refine ite2 (fun _ => ?_) (fun _ => ?_)
      · refine ⟨p, c, 2, rfl, h2.kp.pen, by decide, by decide, fun z H3 z0 hz k3 => ?_⟩
        have h3 := h2.drawn nqp nlp k3
        refine ⟨q, _, _, rfl, rfl, h3.hq, ?_, kG _ _ (h3.piece hPh hq nql hz)⟩
        rw [List.length_map]
        exact Nat.lt_of_le_of_lt (Nat.le_trans h.len hn) (by decide)
      · exact kG ps H2 (h2.more (Nat.le_succ _))
    refine ⟨_, rfl, (by show 6 ≤ sizeLine; decide), fun a ha => ⟨p, c, I0.kp.pen.new ha, .inl ⟨a, _, rfl, I0.kp.pen.ne ha, SqL.of upd_same, by decide, by decide, fun x H1 hx k1 => ?_⟩⟩⟩
    obtain ⟨m, hm, rfl⟩ : ∃ m : Nat, m ≤ 2 ∧ x = V.int m := by
      have hx' : x ∈ ([0, 1, 1, 1, 1, 2] : List Int).map V.int := hx
      obtain ⟨z, h1, h2⟩ := List.mem_map.mp hx'
      obtain ⟨h3, h4⟩ := menu012 z h1
      exact ⟨z.toNat, by omega, by rw [← h2, Int.toNat_of_nonneg h3]⟩
    have I1 := (I0.new (o := .lst ([0, 1, 1, 1, 1, 2].map V.int)) ha).drawn nqp nlp k1
    refine ⟨m, rfl, by omega, by omega, for_range (n := (m : Int).toNat) (fun i σ H' => (∃ v4 v5 : Option V, σ = [some (.ref p), some (.ref l), some (.int own), some (.ref q), v4, v5]) ∧ ∃ ps ls', FI H p c l q ls (2 * i) ps ls' H') ⟨⟨_, _, rfl⟩, _, _, I1⟩ ?_ ?_⟩
    · rintro i σ H2 hi ⟨⟨v4, v5, rfl⟩, ps, ls', I⟩
      refine ⟨fun σ H' => σ = [some (.ref p), some (.ref l), some (.int own), some (.ref q), some (.int (0 + (i : Int))), v5] ∧ ∃ ps, FI H p c l q ls (2 * i + 1) ps ls' H', ?_, ?_⟩
      · refine ⟨_, rfl, p, c, 3, rfl, I.kp.pen, by decide, by decide, fun d H3 d0 d1 k3 => ⟨rfl, _, rfl, ?_⟩⟩
        have I3 := I.drawn nqp nlp k3
        have z := perhaps (2 * i) ps ls' H2 (fun H' => [some (V.ref p), some (.ref l), some (.int own), some (.ref q), some (.int (0 + (i : Int))), v5] = [some (V.ref p), some (.ref l), some (.int own), some (.ref q), some (.int (0 + (i : Int))), v5] ∧ ∃ ps, FI H p c l q ls (2 * i + 1) ps ls' H') (by omega) I (fun ps' H4 h4 => ⟨rfl, ps', h4⟩) d H3 k3
        by_cases hd : decide (V.int d = V.int 0) = true
        · rw [if_pos hd] at z
          refine iteT' hd ?_
          exact ⟨_, rfl, .inl ⟨rfl, _, SqL.of I3.hq⟩, _, rfl, z⟩
        · rw [if_neg hd] at z
          exact iteF' (eq_false_of_ne_true hd) z
      · rintro σ H3 ⟨rfl, ps3, I3⟩
        refine ⟨_, rfl, Nat.zero_le _, fun e he => ?_⟩
        have I4 := I3.new (o := .lst []) he
        refine ⟨.list ((iN ls').map PyData.int), .list [], .lst (SqL.of I4.hl) (dp_ints _), .lst (SqL.of upd_same) .nil, shaped_ints _, by decide, _, rfl, ?_⟩
        rw [ints_ne_nil]
        by_cases hne : ls' = []
        · subst hne
          refine iteF ?_
          exact ⟨⟨_, _, rfl⟩, ps3, [], by rw [Nat.mul_succ]; exact I4.more (Nat.le_succ _)⟩
        · have hpos : 0 < ls'.length := List.length_pos_iff.mpr hne
          have hle : ls'.length ≤ 100 := by
            have := I4.perm.length_eq
            rw [List.length_append] at this
            omega
          have hem : (!(iN ls').isEmpty) = true := by
            cases ls' with
            | nil => exact absurd rfl hne
            | cons a r => rfl
          rw [hem]
          refine iteT ?_
          refine ⟨fun σ H' => (∃ k : Nat, k < ls'.length ∧ σ = [some (.ref p), some (.ref l), some (.int own), some (.ref q), some (.int (0 + (i : Int))), some (.int k)]) ∧ FI H p c l q ls (2 * i + 1) ps3 ls' H', ?_, ?_⟩
          · -- which one: the own one, or a drawn one
            have other : ∀ H4, FI H p c l q ls (2 * i + 1) ps3 ls' H4 → spDraw [.ref p, .int (((iN ls').map V.int).length : Nat)] H4 (fun x H' => (∃ k : Nat, k < ls'.length ∧ [some (V.ref p), some (.ref l), some (.int own), some (.ref q), some (.int (0 + (i : Int))), some x] = [some (.ref p), some (.ref l), some (.int own), some (.ref q), some (.int (0 + (i : Int))), some (.int k)]) ∧ FI H p c l q ls (2 * i + 1) ps3 ls' H') E0 := fun H4 J => by
              have en : ((iN ls').map V.int).length = ls'.length := by
                unfold iN
                rw [List.length_map, List.length_map]
              rw [en]
              refine ⟨p, c, _, rfl, J.kp.pen, by omega, log_small (by omega) (by omega), fun d H5 d0 d1 k5 => ⟨⟨d.toNat, by omega, ?_⟩, J.drawn nqp nlp k5⟩⟩
              rw [Int.toNat_of_nonneg d0]
            refine ⟨_, rfl, _, rfl, l, _, rfl, .inl (SqL.of I4.hl), rfl, flat_ints _, _, rfl, ?_⟩
            cases hin : inV (.int own) ((iN ls').map V.int) with
            | false =>
              refine iteF (iteF ?_)
              exact ⟨_, rfl, _, rfl, l, _, rfl, .inl (SqL.of I4.hl), other _ I4⟩
            | true =>
              refine iteT ?_
              refine ⟨_, rfl, p, c, 3, rfl, I4.kp.pen, by decide, by decide, fun d H5 d0 d1 k5 => ?_⟩
              have I5 := I4.drawn nqp nlp k5
              refine ⟨_, _, rfl, rfl, _, rfl, ?_⟩
              refine ite2 (fun _ => ?_) (fun _ => ?_)
              · obtain ⟨j, z, j1, j2, j3⟩ := first_hit (xs := (iN ls').map V.int) (t := fun y => eqV y (.int own)) hin
                have hj : j < ls'.length := by
                  have q := (List.getElem?_eq_some_iff.mp j1).1
                  unfold iN at q
                  rw [List.length_map, List.length_map] at q
                  exact q
                exact ⟨_, rfl, .inl ⟨rfl, _, SqL.of I5.hl⟩, _, rfl, l, _, _, j, z, rfl, rfl, SqL.of I5.hl, rfl, flat_ints _, j1, j2, j3, ⟨j, hj, rfl⟩, I5⟩
              · exact ⟨_, rfl, _, rfl, l, _, rfl, .inl (SqL.of I5.hl), other _ I5⟩
          · rintro σ H4 ⟨⟨k', hk, rfl⟩, I5⟩
            have hlen : ((iN ls').map V.int).length = ls'.length := by
              unfold iN
              rw [List.length_map, List.length_map]
            refine ⟨_, rfl, .inl ⟨rfl, _, SqL.of I5.hq⟩, _, rfl, .inl ⟨rfl, _, SqL.of I5.hl⟩, _, rfl, l, _, _, k', .int (ls'[k'] : Nat), rfl, rfl, I5.hl, by omega, by omega, ?_, ?_, ?_⟩
            · refine (ixN_seq (n := ((iN ls').map V.int).length) (i := (k' : Int)) (j := k') ?_).1
              unfold ixN
              rw [if_pos (by omega), if_pos (by omega)]
              exact congrArg some (by omega)
            · unfold iN
              rw [List.getElem?_map, List.getElem?_map, List.getElem?_eq_getElem hk]
              rfl
            · refine ⟨q, _, _, rfl, rfl, (by rw [upd_ne nql]; exact I5.hq), ?_, ⟨_, _, rfl⟩, ps3 ++ [.b ls'[k']], ls'.eraseIdx k', ?_⟩
              · rw [List.length_map]
                exact Nat.lt_of_le_of_lt (Nat.le_trans I5.len (show 2 * i + 1 ≤ 100 by omega)) (by decide)
              · rw [Nat.mul_succ]
                exact I5.take hPh hq nql hk
    · rintro σ H2 ⟨⟨v4, v5, rfl⟩, ps, ls', I⟩
      have I' := I.more (show 2 * (m : Int).toNat ≤ 4 by omega)
      refine ⟨fun σ H' => σ = [some (.ref p), some (.ref l), some (.int own), some (.ref q), v4, v5] ∧ ∃ ps, FI H p c l q ls 5 ps ls' H', ?_, ?_⟩
      · refine ⟨_, rfl, p, c, 2, rfl, I.kp.pen, by decide, by decide, fun d H3 d0 d1 k3 => ⟨rfl, _, rfl, ?_⟩⟩
        have I3 := I'.drawn nqp nlp k3
        have z := perhaps 4 ps ls' H2 (fun H' => [some (V.ref p), some (.ref l), some (.int own), some (.ref q), v4, v5] = [some (V.ref p), some (.ref l), some (.int own), some (.ref q), v4, v5] ∧ ∃ ps, FI H p c l q ls 5 ps ls' H') (by omega) I' (fun ps' H4 h4 => ⟨rfl, ps', h4⟩) d H3 k3
        by_cases hd : decide (V.int d = V.int 0) = true
        · rw [if_pos hd] at z
          refine iteT' hd ?_
          exact ⟨_, rfl, .inl ⟨rfl, _, SqL.of I3.hq⟩, _, rfl, z⟩
        · rw [if_neg hd] at z
          exact iteF' (eq_false_of_ne_true hd) z
      · rintro σ H3 ⟨rfl, ps3, I3⟩
        have hlen3 : ps3.length ≤ 5 := I3.len
        have hlet3 : lets ps3 ≤ 10 := I3.lt
        refine ⟨_, rfl, q, ps3, rfl, SqL.of I3.hq, Nat.le_trans hlen3 (by decide), Nat.le_trans hlet3 (by decide), I3.low, fun t H4 s4 t3 t4 => ?_⟩
        obtain ⟨n1, n2, n3, n4⟩ := normal_ok ps3 []
        refine k (normal ps3) t ls' H4 (I3.kp.same s4) (I3.kp.freeH I3.hl t3) t4 (s4 _ _ I3.hl) ?_ ?_ ?_ ?_
        · have e : bufs (normal ps3) = bufs ps3 := n1
          rw [e]
          exact I3.perm
        · have e : lets (normal ps3) = 0 + lets ps3 := n2
          omega
        · exact n4 (fun x hx => by cases hx) I3.low
        · have e : (normal ps3).length ≤ 0 + ps3.length := n3
          omega
end

/-! ### the recipes of an entry -/
def Rc.d (r : Rc) : PyData := .tuple (r.map Pt.d)
def fillsD (fs : List Rc) : PyData := .tuple (fs.map Rc.d)
/-- a recipe as it is drawn -/
structure ROk (r : Rc) : Prop where
  lt : lets r ≤ 10
  low : lowR r
  len : r.length ≤ 5
structure FOk (n : Nat) (fs : List Rc) : Prop where
  len : fs.length = n
  nd : (fs.flatMap bufs).Nodup
  lt : ∀ i ∈ fs.flatMap bufs, i < n
  each : ∀ r ∈ fs, ROk r
theorem tp_rc {H : Hp} {t : Addr} {r : Rc} (h : H t = some (.tup (r.map Pt.v))) : Tp H (.ref t) r.d := .tup h (tp_parts r)

/-- what a dict of recipes holds -/
abbrev Ent := Nat × Addr × Rc
def kvsE (xs : List Ent) : List (Key × V) := xs.map fun x => (Sum.inl (x.1 : Int), V.ref x.2.1)
def pickE (xs : List Ent) (n : Nat) : Addr × Rc := ((xs.find? fun x => decide (x.1 = n)).map (·.2)).getD (0, [])
theorem put_new (xs : List Ent) (n : Nat) (v : V) (h : n ∉ xs.map (·.1)) : putK (kvsE xs) (Sum.inl (n : Int)) v = kvsE xs ++ [(Sum.inl (n : Int), v)] := by
  unfold putK
  rw [if_neg]
  intro z
  rw [List.any_eq_true] at z
  obtain ⟨kv, h1, h2⟩ := z
  obtain ⟨x, h3, rfl⟩ := List.mem_map.mp h1
  have e : (Sum.inl (x.1 : Int) : Key) = Sum.inl (n : Int) := of_decide_eq_true h2
  have e2 : (x.1 : Int) = (n : Int) := Sum.inl.inj e
  have e3 : x.1 = n := by omega
  exact h (e3 ▸ List.mem_map_of_mem h3)
theorem pick_val : ∀ (xs : List Ent) (n : Nat), n ∈ xs.map (·.1) → valV (kvsE xs) (Sum.inl (n : Int)) = some (.ref (pickE xs n).1) ∧ (n, pickE xs n) ∈ xs
  | [], _, h => by cases h
  | x :: r, n, h => by
    by_cases hx : x.1 = n
    · have e1 : pickE (x :: r) n = x.2 := by
        unfold pickE
        rw [List.find?_cons_of_pos (by exact decide_eq_true hx)]
        rfl
      rw [e1]
      refine ⟨valV_pos (by show (Sum.inl (x.1 : Int) : Key) = Sum.inl (n : Int); rw [hx]), ?_⟩
      rw [← hx]
      exact List.mem_cons_self
    · have hr : n ∈ r.map (·.1) := by
        rw [List.map_cons] at h
        rcases List.mem_cons.mp h with h | h
        · exact absurd h.symm hx
        · exact h
      obtain ⟨h1, h2⟩ := pick_val r n hr
      have e1 : pickE (x :: r) n = pickE r n := by
        unfold pickE
        rw [List.find?_cons_of_neg (by intro z; exact hx (of_decide_eq_true z))]
      rw [e1]
      refine ⟨(valV_neg (p := (Sum.inl (x.1 : Int), V.ref x.2.1)) (r := kvsE r) (fun z => hx ?_)).trans h1, List.mem_cons_of_mem _ h2⟩
      have e2 : (x.1 : Int) = (n : Int) := Sum.inl.inj z
      omega
theorem pick_self : ∀ (xs : List Ent), (xs.map (·.1)).Nodup → ∀ x ∈ xs, pickE xs x.1 = x.2
  | [], _, _, h => by cases h
  | y :: r, nd, x, h => by
    rw [List.map_cons, List.nodup_cons] at nd
    rcases List.mem_cons.mp h with rfl | h
    · unfold pickE
      rw [List.find?_cons_of_pos (by exact decide_eq_true rfl)]
      rfl
    · have hne : ¬ y.1 = x.1 := fun z => nd.1 (z ▸ List.mem_map_of_mem h)
      have e1 : pickE (y :: r) x.1 = pickE r x.1 := by
        unfold pickE
        rw [List.find?_cons_of_neg (by intro z; exact hne (of_decide_eq_true z))]
      rw [e1]
      exact pick_self r nd.2 x h
theorem flat_same {α β : Type} {g h : α → List β} : ∀ {l : List α}, (∀ x ∈ l, g x = h x) → l.flatMap g = l.flatMap h
  | [], _ => rfl
  | x :: r, e => by rw [List.flatMap_cons, List.flatMap_cons, e x List.mem_cons_self, flat_same fun y hy => e y (List.mem_cons_of_mem _ hy)]
/-- behind the loop: the recipes in the buffers' order -/
theorem fok_of {n : Nat} {xs : List Ent} {os ls' : List Nat} (he : xs.map (·.1) = os) (ho : os.Perm (List.range n)) (hp : (xs.flatMap (fun x => bufs x.2.2) ++ ls').Perm (List.range n)) (hr : ∀ x ∈ xs, ROk x.2.2) :
    FOk n ((List.range n).map fun i => (pickE xs i).2) := by
  have nd : (xs.map (·.1)).Nodup := by rw [he]; exact ho.nodup_iff.mpr List.nodup_range
  have e1 : xs.flatMap (fun x => bufs x.2.2) = os.flatMap fun i => bufs (pickE xs i).2 := by
    rw [← he, List.flatMap_map]
    exact flat_same fun x hx => by rw [pick_self xs nd x hx]
  have e2 : (((List.range n).map fun i => (pickE xs i).2).flatMap bufs).Perm (xs.flatMap fun x => bufs x.2.2) := by
    rw [e1, List.flatMap_map]
    exact (ho.flatMap_right _).symm
  have nd2 : (xs.flatMap (fun x => bufs x.2.2)).Nodup := (List.nodup_append.mp (hp.nodup_iff.mpr List.nodup_range)).1
  refine ⟨by rw [List.length_map, List.length_range], e2.nodup_iff.mpr nd2, fun i hi => ?_, fun r hr' => ?_⟩
  · have h1 := hp.mem_iff.mp (List.mem_append_left ls' (e2.mem_iff.mp hi))
    exact List.mem_range.mp h1
  · obtain ⟨i, h1, rfl⟩ := List.mem_map.mp hr'
    have h2 : i ∈ xs.map (·.1) := by rw [he]; exact ho.mem_iff.mpr h1
    exact hr _ (pick_val xs i h2).2

def spFills : Sp := fun vs H Q _ => ∃ (p c : Addr) (n : Nat), vs = [.ref p, .int n] ∧ Pen H p c ∧ n ≤ 50 ∧
  ∀ (fs : List Rc) (t : Addr) H', Kp p c H H' → Tp H' (.ref t) (fillsD fs) → FOk n fs → Q (.ref t) H'
/-- a recipe, or None -/
def endD : Option Rc → PyData
  | none => .none
  | some r => r.d
/-- a recipe as it may stand at an end: drawn, or with a letter more -/
structure ROkE (r : Rc) : Prop where
  lt : lets r ≤ 12
  low : lowR r
  len : r.length ≤ 6
theorem ROk.e {r : Rc} (h : ROk r) : ROkE r := ⟨by have := h.lt; omega, h.low, by have := h.len; omega⟩
structure EOk (n : Nat) (r : Rc) : Prop where
  nd : (bufs r).Nodup
  lt : ∀ i ∈ bufs r, i < n
  ok : ROkE r
def spEnd : Sp := fun vs H Q _ => ∃ (p c : Addr) (n : Nat), vs = [.ref p, .int n] ∧ Pen H p c ∧ n ≤ 50 ∧
  ∀ (r : Option Rc) (x : V) H', Kp p c H H' → Tp H' x (endD r) → (∀ q, r = some q → EOk n q ∧ ROk q) → Q x H'
theorem sc_fills : FnScope ["pen", "buffers", "left", "order", "found", "buffer"] ["pen", "buffers"] (fnScope st_law_fills) := fnScope_by (by decide +kernel)
theorem sc_end : FnScope ["pen", "buffers"] ["pen", "buffers"] (fnScope st_law_end) := fnScope_by (by decide +kernel)
section
variable {P : Program} {w : World} {K : PySem.W.Frag} {mg : Str → Option Value} {base : Heap} {f : Addr} {fd : FuncData}
theorem cal_end (F : C8.Def K mg "_law_end" st_law_end f fd) (b : Binds K fd ["pen", "buffers"] []) (B : BN2 mg) (Cd : Cal P w K mg base 2 "_law_draw" spDraw []) (Cf : Cal P w K mg base 5 "_law_fill" spFill []) : Cal P w K mg base 6 "_law_end" spEnd [] := by
  refine cal0 F b .nil sc_end (fun vs H Q E h => ?_) (fun cdv A outer s H vs Q E hr h => ?_)
  · obtain ⟨p, c, n, rfl, _⟩ := h
    rfl
  · obtain ⟨p, c, n, rfl, hP, hn, k⟩ := h
    refine ⟨_, pss_one (ps_ret (pe_ifExp (pt_cmpR op_gt (pe_c Cd hr (by decide) (by rfl) (pa_cons (pv 0) (pa_cons pe_int pa_nil))) pe_int (nomark _))
      (pe_c Cf hr (by decide) (by rfl) (pa_cons (pv 0) (pa_cons (pe_listRg rfl (by rfl) B.list (prg_1 (by rfl) B.range (pv 1))) (pa_cons (pe_op op_sub (pv 1) pe_int) pa_nil)))) pe_non)), ?_⟩
    refine ⟨_, rfl, p, c, 5, rfl, hP, by decide, by decide, fun d H1 d0 d1 k1 => ⟨_, _, rfl, rfl, _, rfl, ?_⟩⟩
    refine ite2 (fun _ => ?_) (fun _ => ?_)
    · refine ⟨_, rfl, _, rfl, n, rfl, RgOk.of_le (by decide) (by omega) (by decide) (by omega), fun l hl => ⟨_, rfl, _, _, rfl, rfl, ?_⟩⟩
      have k2 := k1.new (o := .lst (rgV 0 (n : Int))) hl
      refine ⟨p, c, l, List.range n, _, rfl, k2.pen, k1.pen.ne hl, k1.pen.neC hl, by rw [upd_same, rg_eq], by rw [List.length_range]; omega, fun r t ls' H2 kk t0 t1 _ pm l1 l2 l3 => ?_⟩
      have k3 : Kp p c H H2 := k2.thru kk (k1.free hl)
      refine k (some r) _ H2 k3 (tp_rc t1) fun q e => ?_
      cases e
      have nd := (List.nodup_append.mp (pm.nodup_iff.mpr List.nodup_range)).1
      exact ⟨⟨nd, fun i hi => List.mem_range.mp (pm.mem_iff.mp (List.mem_append_left _ hi)), ROk.e ⟨l1, l2, l3⟩⟩, l1, l2, l3⟩
    · exact k none _ H1 k1 .non fun q e => by cases e
theorem cal_fills (F : C8.Def K mg "_law_fills" st_law_fills f fd) (b : Binds K fd ["pen", "buffers"] []) (B : BN2 mg) (Cd : Cal P w K mg base 2 "_law_draw" spDraw []) (Cf : Cal P w K mg base 5 "_law_fill" spFill []) : Cal P w K mg base 6 "_law_fills" spFills [] := by
  refine cal0 F b .nil sc_fills (fun vs H Q E h => ?_) (fun cdv A outer s H vs Q E hr h => ?_)
  · obtain ⟨p, c, n, rfl, _⟩ := h
    rfl
  · obtain ⟨p, c, n, rfl, hP, hn, k⟩ := h
    refine ⟨_, pss_cons (ps_set (i := 2) sc_fills.nd rfl (Or.inl rfl) (pe_listRg rfl (by rfl) B.list (prg_1 (by rfl) B.range (pv 1))))
      (pss_cut (ps_set (i := 3) sc_fills.nd rfl (Or.inl rfl) (pe_ifExp (pt_cmpR op_eq (pe_c Cd hr (by decide) (by rfl) (pa_cons (pv 0) (pa_cons pe_int pa_nil))) pe_int (nomark _)) (pe_revL (pv 2)) (pe_callTy call_list_of (by rfl) B.list (by decide +kernel) (pa_cons (pv 2) pa_nil))))
      (pss_cons (ps_set (i := 4) sc_fills.nd rfl (Or.inr rfl) pe_dnewK)
      (pss_cons (ps_for PassesOwn.never rfl (pi_list (pv 3)) (pg_name (i := 5) sc_fills.nd rfl (Or.inl rfl))
        (pss_one (ps_dput (hu_of hr) (pv 4) (pv 5) (pe_c Cf hr (by decide) (by rfl) (pa_cons (pv 0) (pa_cons (pv 2) (pa_cons (pv 5) pa_nil)))) rfl)))
      (pss_one (ps_ret (pe_callTy call_tuple_of (by rfl) B.tuple (by decide +kernel) (pa_cons (pe_lc (own := [("buffer", 5)]) (g := gName 5) (tt := tYes) (by rfl) sc_fills.nd (pi_range1 rfl B.range (pa_cons (pv 1) pa_nil))
        (blkOk_by (own := [("buffer", 5)]) (N := ["pen", "buffers", "left", "order", "found", "buffer"]) (sc := fnScope st_law_fills) (by decide +kernel)) (fun _ _ _ _ _ => pg_name (i := 5) sc_fills.nd rfl (Or.inl rfl)) (fun _ _ _ _ _ => pts_nil)
        (fun _ _ _ _ _ => pe_dget (hu_of hr) (pv 4) (pv 5) (fun _ _ => rfl))) pa_nil))))))), ?_⟩
    refine ⟨_, rfl, n, rfl, RgOk.of_le (by decide) (by omega) (by decide) (by omega), fun l hl => ?_⟩
    have kl : Kp p c H (upd H l (.lst (rgV 0 (n : Int)))) := (Kp.rfl' hP).new hl
    have nlp : l ≠ p := hP.ne hl
    have nlc : l ≠ c := hP.neC hl
    have hL : upd H l (.lst (rgV 0 (n : Int))) l = some (.lst ((iN (List.range n)).map V.int)) := by rw [upd_same, rg_eq]
    -- the order: the buffers, in one order
    refine ⟨fun σ H' => ∃ (o : Addr) (os : List Nat), σ = [some (.ref p), some (.int n), some (.ref l), some (.ref o), none, none] ∧ os.Perm (List.range n) ∧ Kp p c H H' ∧ H o = none ∧ o ≠ l ∧ H' o = some (.lst ((iN os).map V.int)) ∧ H' l = some (.lst ((iN (List.range n)).map V.int)), ?_, ?_⟩
    · refine ⟨_, rfl, p, c, 4, rfl, kl.pen, by decide, by decide, fun d H1 d0 d1 k1 => ⟨rfl, _, rfl, ?_⟩⟩
      have kA := kl.trans k1
      have hL1 := k1.but _ _ nlp hL
      refine ite2 (fun _ => ?_) (fun _ => ?_)
      · refine ⟨_, rfl, l, _, rfl, SqL.of hL1, fun o ho => ⟨o, (List.range n).reverse, rfl, List.reverse_perm _, kA.new ho, kA.free ho, (ne_of_none hL1 ho).symm, ?_, ?_⟩⟩
        · rw [upd_same]
          unfold iN
          rw [List.map_reverse, List.map_reverse]
        · rw [upd_ne (ne_of_none hL1 ho)]
          exact hL1
      · refine ⟨_, rfl, l, _, rfl, .inl (SqL.of hL1), fun o ho => ⟨o, List.range n, rfl, List.Perm.refl _, kA.new ho, kA.free ho, (ne_of_none hL1 ho).symm, upd_same, ?_⟩⟩
        rw [upd_ne (ne_of_none hL1 ho)]
        exact hL1
    · rintro σ H1 ⟨o, os, rfl, hos, k1, o0, nol, hO, hL1⟩
      intro D hD
      have nop : o ≠ p := hP.ne o0
      have hDl : D ≠ l := (ne_of_none hL1 hD).symm
      have hDo : D ≠ o := (ne_of_none hO hD).symm
      have D0 : H D = none := k1.free hD
      have nDp : D ≠ p := hP.ne D0
      refine ⟨_, rfl, o, rfl, ⟨_, (show SqL K (upd H1 D (.dK [])) o ((iN os).map V.int) from SqL.of (by rw [upd_ne hDo.symm]; exact hO))⟩, for_list (K := K) (a := o) (xs := (iN os).map V.int)
        (fun i σ H' => (∃ v : Option V, σ = [some (.ref p), some (.int n), some (.ref l), some (.ref o), some (.ref D), v]) ∧ Kp p c H H' ∧ H' o = some (.lst ((iN os).map V.int)) ∧ ∃ (xs : List Ent) (ls' : List Nat), xs.map (·.1) = os.take i ∧ H' D = some (.dK (kvsE xs)) ∧ H' l = some (.lst ((iN ls').map V.int)) ∧
          (xs.flatMap (fun x => bufs x.2.2) ++ ls').Perm (List.range n) ∧ ∀ x ∈ xs, H' x.2.1 = some (.tup (x.2.2.map Pt.v)) ∧ ROk x.2.2)
        ⟨⟨none, rfl⟩, k1.new hD, by rw [upd_ne hDo.symm]; exact hO, [], List.range n, rfl, upd_same, by rw [upd_ne hDl.symm]; exact hL1, List.Perm.refl _, fun x hx => by cases hx⟩ (fun i σ H' _ h => SqL.of h.2.2.1) ?_ ?_⟩
      · rintro i y σ H2 hi ⟨⟨v, rfl⟩, k2, hO2, xs, ls', ex, hD2, hL2, hp, hx⟩
        obtain ⟨z, hz, rfl⟩ : ∃ z, os[i]? = some z ∧ y = V.int (z : Nat) := by
          unfold iN at hi
          rw [List.map_map, List.getElem?_map] at hi
          cases e : os[i]? with
          | none =>
            rw [e] at hi
            cases hi
          | some u =>
            rw [e] at hi
            exact ⟨u, rfl, (Option.some.inj hi).symm⟩
        have hln : ls'.length ≤ 100 := by
          have := hp.length_eq
          rw [List.length_append, List.length_range] at this
          omega
        refine ⟨_, rfl, _, rfl, _, rfl, p, c, l, ls', _, rfl, k2.pen, nlp, nlc, hL2, hln, fun r t ls2 H3 k3 t0 t1 t2 pm l1 l2 l3 => ?_⟩
        have hD3 : H3 D = some (.dK (kvsE xs)) := k3.unhide nDp hDl hD2
        have hO3 := k3.unhide nop nol hO2
        have zn : z ∉ xs.map (·.1) := by
          rw [ex]
          intro zm
          have nd : os.Nodup := hos.nodup_iff.mpr List.nodup_range
          obtain ⟨j, hj⟩ := List.mem_iff_getElem?.mp zm
          have hji : j < i := by
            have := (List.getElem?_eq_some_iff.mp hj).1
            rw [List.length_take] at this
            omega
          rw [List.getElem?_take_of_lt hji] at hj
          have := nd_ix nd hj hz
          omega
        have hle : (kvsE xs).length ≤ 50 := by
          unfold kvsE
          rw [List.length_map]
          have e1 := congrArg List.length ex
          have e2 := hos.length_eq
          rw [List.length_map, List.length_take] at e1
          rw [List.length_range] at e2
          omega
        have putD : DPut H3 D (.int (z : Nat)) (.ref t) (upd H3 D (.dK (kvsE xs ++ [(Sum.inl (z : Int), .ref t)]))) := by
          have q := DPut.k (k := Sum.inl (z : Int)) (v := V.ref t) hD3 (Nat.lt_of_le_of_lt hle (by decide))
          rw [put_new xs z _ zn] at q
          exact q
        have hDt : D ≠ t := by
          have e : H2 D = some (.dK (kvsE xs)) := hD2
          exact ne_of_none e t0
        refine ⟨_, rfl, _, rfl, D, _, rfl, putD, ⟨_, rfl⟩, ?_, ?_, xs ++ [(z, t, r)], ls2, ?_, ?_, ?_, ?_, ?_⟩
        · exact (k2.thru k3 hl).put hP D0
        · rw [upd_ne hDo.symm]
          exact hO3
        · rw [List.map_append, ex, List.take_add_one, hz]
          rfl
        · rw [upd_same]
          unfold kvsE
          rw [List.map_append]
          rfl
        · rw [upd_ne hDl.symm]
          exact t2
        · rw [List.flatMap_append, List.flatMap_cons, List.flatMap_nil, List.append_nil, List.append_assoc]
          exact (pm.append_left _).trans hp
        · intro x hm
          rcases List.mem_append.mp hm with hm | hm
          · obtain ⟨h1, h2⟩ := hx x hm
            refine ⟨?_, h2⟩
            rw [upd_ne (ne_of h1 hD2 (by intro q; cases q))]
            exact k3.unhide (by
              obtain ⟨ns, i', j', g1, _⟩ := k2.pen
              exact ne_of h1 g1 (by intro q; cases q)) (ne_of h1 hL2 (by intro q; cases q)) h1
          · obtain rfl := List.mem_singleton.mp hm
            refine ⟨?_, l1, l2, l3⟩
            rw [upd_ne hDt.symm]
            exact t1
      · rintro σ H2 ⟨⟨v, rfl⟩, k2, hO2, xs, ls', ex, hD2, hL2, hp, hx⟩
        have eos : ((iN os).map V.int).length = os.length := by
          unfold iN
          rw [List.length_map, List.length_map]
        rw [eos, List.take_length] at ex
        have fok := fok_of ex hos hp fun x hm => (hx x hm).2
        refine ⟨_, rfl, n, rfl, by omega, by omega, fun E hE => ?_⟩
        refine lc_range (lo := 0) (n := (n : Int).toNat) (fun i H' => Same H2 H' ∧ H' E = some (.lst ((List.range i).map fun j => V.ref (pickE xs j).1))) ⟨same_new hE, upd_same⟩ ?_ ?_
        · rintro i H3 hi ⟨s3, hE3⟩
          have him : i ∈ xs.map (·.1) := by
            rw [ex]
            exact hos.mem_iff.mpr (List.mem_range.mpr (by omega))
          refine ⟨rfl, ?_⟩
          refine ⟨_, rfl, _, rfl, D, V.ref (pickE xs i).1, rfl, ?_, ?_⟩
          · have q := DGet.k (k := Sum.inl (i : Int)) (s3 _ _ hD2)
            rw [(pick_val xs i him).1] at q
            have e : V.int (0 + (i : Int)) = kV (Sum.inl (i : Int)) := by
              rw [Int.zero_add]
              rfl
            rw [e]
            exact q
          · refine ⟨_, hE3, ?_, ?_, ?_⟩
            · rw [List.length_map, List.length_range]
              exact Nat.lt_of_lt_of_le (show i < 100 by omega) (by decide)
            · intro b' o' e'
              rw [upd_ne (ne_of_none e' hE)]
              exact s3 _ _ e'
            · rw [upd_same, List.range_succ, List.map_append]
              rfl
        · rintro H3 ⟨s3, hE3⟩
          refine ⟨E, _, rfl, .inl ⟨SqL.of hE3, fun t ht => ?_⟩⟩
          refine k _ t _ ((k2.same s3).new ht) (.tup upd_same ?_) fok
          rw [Int.toNat_natCast, List.map_map]
          refine TpAll.map fun i hi => ?_
          have him : i ∈ xs.map (·.1) := by
            rw [ex]
            exact hos.mem_iff.mpr hi
          have h1 := (hx _ (pick_val xs i him).2).1
          exact tp_rc (by rw [upd_ne (ne_of_none (s3 _ _ h1) ht)]; exact s3 _ _ h1)
end

/-! ### lists of data that are being made -/
/-- a list of data that is being made -/
def LAt (H : Hp) (R : Addr) (ds : List PyData) : Prop := ∃ vs, H R = some (.lst vs) ∧ TpAll H vs ds
theorem LAt.kp {p c R : Addr} {H1 H2 : Hp} {ds : List PyData} (h : LAt H1 R ds) (n : R ≠ p) (hP : Pen H1 p c) (k : Kp p c H1 H2) : LAt H2 R ds := by
  obtain ⟨vs, h1, h2⟩ := h
  exact ⟨vs, k.but _ _ n h1, h2.mono (k.tk hP)⟩
theorem LAt.same {R : Addr} {H1 H2 : Hp} {ds : List PyData} (h : LAt H1 R ds) (s : Same H1 H2) : LAt H2 R ds := by
  obtain ⟨vs, h1, h2⟩ := h
  exact ⟨vs, s _ _ h1, h2.mono (Same.tk s)⟩
theorem LAt.put {R q : Addr} {H1 : Hp} {ys : List V} {o : HO} {ds : List PyData} (h : LAt H1 R ds) (hq : H1 q = some (.lst ys)) (n : R ≠ q) : LAt (upd H1 q o) R ds := by
  obtain ⟨vs, h1, h2⟩ := h
  exact ⟨vs, by rw [upd_ne n]; exact h1, h2.mono (tk_lst hq)⟩
theorem LAt.push {R : Addr} {H1 : Hp} {vs : List V} {x : V} {d : PyData} {ds : List PyData} (hv : H1 R = some (.lst vs)) (ha : TpAll H1 vs ds) (hx : Tp H1 x d) : LAt (upd H1 R (.lst (vs ++ [x]))) R (ds ++ [d]) :=
  ⟨vs ++ [x], upd_same, (ha.mono (tk_lst hv)).app (.cons (hx.mono (tk_lst hv)) .nil)⟩

/-! ### writers -/
structure Wr where
  begins : List Str
  rules : List (List (Option (Nat × List Rc)))
  ends : List (Option Rc)
def entD : Option (Nat × List Rc) → PyData
  | none => .none
  | some (t, fs) => .tuple [.int t, fillsD fs]
def rowD (row : List (Option (Nat × List Rc))) : PyData := .tuple (row.map entD)
def Wr.d (W : Wr) : PyData := .tuple [.tuple (W.begins.map .str), .tuple (W.rules.map rowD), .tuple (W.ends.map endD)]
/-- an entry of a writer with S states and B buffers -/
def EntOk (S B : Nat) (e : Option (Nat × List Rc)) : Prop := ∀ t fs, e = some (t, fs) → t < S ∧ FOk B fs
structure WOk (k S B : Nat) (W : Wr) : Prop where
  b1 : W.begins.length = B
  b2 : ∀ z ∈ W.begins, Tx 2 z
  r1 : W.rules.length = S
  r2 : ∀ row ∈ W.rules, row.length = k ∧ ∀ e ∈ row, EntOk S B e
  e1 : W.ends.length = S
  e2 : ∀ e ∈ W.ends, ∀ q, e = some q → EOk B q
/-- the ends are as they were drawn -/
def Tight (W : Wr) : Prop := ∀ e ∈ W.ends, ∀ q, e = some q → ROk q
def spWriterT : Sp := fun vs H Q _ => ∃ (p c : Addr) (k sm bm : Nat), vs = [.ref p, .int k, .int sm, .int bm] ∧ Pen H p c ∧ k ≤ 40 ∧ 0 < sm ∧ sm ≤ 40 ∧ 0 < bm ∧ bm ≤ 40 ∧
  ∀ (W : Wr) (S B : Nat) (t : Addr) H', 1 ≤ S → S ≤ sm → 1 ≤ B → B ≤ bm → WOk k S B W → Tight W → Kp p c H H' → Tp H' (.ref t) W.d → Q (.ref t) H'
def spWriter : Sp := fun vs H Q _ => ∃ (p c : Addr) (k sm bm : Nat), vs = [.ref p, .int k, .int sm, .int bm] ∧ Pen H p c ∧ k ≤ 40 ∧ 0 < sm ∧ sm ≤ 40 ∧ 0 < bm ∧ bm ≤ 40 ∧
  ∀ (W : Wr) (S B : Nat) (t : Addr) H', 1 ≤ S → S ≤ sm → 1 ≤ B → B ≤ bm → WOk k S B W → Kp p c H H' → Tp H' (.ref t) W.d → Q (.ref t) H'
def nWriter : List Str := ["pen", "count", "states", "buffers", "begins", "rules", "state", "row", "kind", "target", "fills", "ends", "lap"]
theorem sc_writer : FnScope nWriter ["pen", "count", "states", "buffers"] (fnScope st_law_writer) := fnScope_by (by decide +kernel)
section
variable {P : Program} {w : World} {K : PySem.W.Frag} {mg : Str → Option Value} {base : Heap} {f : Addr} {fd : FuncData}
theorem cal_writerT (F : C8.Def K mg "_law_writer" st_law_writer f fd) (b : Binds K fd ["pen", "count", "states", "buffers"] []) (B : BN2 mg) (Cd : Cal P w K mg base 2 "_law_draw" spDraw []) (Cp : Cal P w K mg base 4 "_law_piece" spPiece [])
    (Cf : Cal P w K mg base 6 "_law_fills" spFills []) (Ce : Cal P w K mg base 6 "_law_end" spEnd []) : Cal P w K mg base 7 "_law_writer" spWriterT [] := by
  refine cal0 F b .nil sc_writer (fun vs H Q E h => ?_) (fun cdv A outer s H vs Q E hr h => ?_)
  · obtain ⟨p, c, k, sm, bm, rfl, _⟩ := h
    rfl
  · obtain ⟨p, c, kk, sm, bm, rfl, hP, hk, s0, s1, b0, b1, k⟩ := h
    refine ⟨_, pss_cons (ps_asg (pe_tup (pa_cons (pe_op op_add pe_int (pe_c Cd hr (by decide) (by rfl) (pa_cons (pv 0) (pa_cons (pv 2) pa_nil)))) (pa_cons (pe_op op_add pe_int (pe_c Cd hr (by decide) (by rfl) (pa_cons (pv 0) (pa_cons (pv 3) pa_nil)))) pa_nil)))
        (pg_tup rfl (pgs_cons (pg_name (i := 2) sc_writer.nd rfl (Or.inl rfl)) (pgs_cons (pg_name (i := 3) sc_writer.nd rfl (Or.inr rfl)) pgs_nil))))
      (pss_cons (ps_set (i := 4) sc_writer.nd rfl (Or.inl rfl) (pe_callTy call_tuple_of (by rfl) B.tuple (by decide +kernel) (pa_cons (pe_lc (own := [("lap", 12)]) (g := gName 12) (tt := tYes) (by rfl) sc_writer.nd (pi_range1 rfl B.range (pa_cons (pv 3) pa_nil))
          (blkOk_by (own := [("lap", 12)]) (N := nWriter) (sc := fnScope st_law_writer) (by decide +kernel)) (fun _ _ _ _ _ => pg_name (i := 12) sc_writer.nd rfl (Or.inl rfl)) (fun _ _ _ _ _ => pts_nil)
          (fun _ _ _ _ _ => pe_ifExp (pt_cmpR op_eq (pe_c Cd hr (by decide) (by rfl) (pa_cons (pv 0) (pa_cons pe_int pa_nil))) pe_int (nomark _)) (pe_c Cp hr (by decide) (by rfl) (pa_cons (pv 0) (pa_cons pe_int pa_nil))) pe_str)) pa_nil)))
      (pss_cons (ps_set (i := 5) sc_writer.nd rfl (Or.inl rfl) (pe_lst pa_nil))
      (pss_cons (ps_for PassesOwn.never rfl (pi_range1 rfl B.range (pa_cons (pv 2) pa_nil)) (pg_name (i := 6) sc_writer.nd rfl (Or.inl rfl))
        (pss_cons (ps_set (i := 7) sc_writer.nd rfl (Or.inl rfl) (pe_lst pa_nil))
        (pss_cons (ps_for PassesOwn.never rfl (pi_range1 rfl B.range (pa_cons (pv 1) pa_nil)) (pg_name (i := 8) sc_writer.nd rfl (Or.inl rfl))
          (pss_cons (ps_par (i := 9) (j := 10) rfl sc_writer.nd rfl rfl (by decide) rfl rfl (pa_cons (pe_c Cd hr (by decide) (by rfl) (pa_cons (pv 0) (pa_cons (pv 2) pa_nil))) (pa_cons (pe_c Cf hr (by decide) (by rfl) (pa_cons (pv 0) (pa_cons (pv 3) pa_nil))) pa_nil)) (by rfl))
          (pss_one (ps_expr (pe_bm PySem.F.plainAttrs_list PySem.F.slot_list_append PySem.F.type_list_append mt_append (pv 7)
            (pa_cons (pe_ifExp (pt_cmpR op_gt (pe_c Cd hr (by decide) (by rfl) (pa_cons (pv 0) (pa_cons pe_int pa_nil))) pe_int (nomark _)) (pe_tup (pa_cons (pv 9) (pa_cons (pv 10) pa_nil))) pe_non) pa_nil))))))
        (pss_one (ps_expr (pe_bm PySem.F.plainAttrs_list PySem.F.slot_list_append PySem.F.type_list_append mt_append (pv 5) (pa_cons (pe_callTy call_tuple_of (by rfl) B.tuple (by decide +kernel) (pa_cons (pv 7) pa_nil)) pa_nil)))))))
      (pss_cons (ps_setLc (i := 11) (own := [("state", 6)]) (g := gName 6) (tt := tYes) (by rfl) sc_writer.nd rfl rfl (sw_true rfl rfl rfl (by decide +kernel)) (pi_range1 rfl B.range (pa_cons (pv 2) pa_nil))
          (blkOk_by (own := [("state", 6)]) (N := nWriter) (sc := fnScope st_law_writer) (by decide +kernel)) (fun _ _ _ _ _ => pg_name (i := 6) sc_writer.nd rfl (Or.inl rfl)) (fun _ _ _ _ _ => pts_nil)
          (fun _ _ _ _ _ => pe_c Ce hr (by decide) (by rfl) (pa_cons (pv 0) (pa_cons (pv 3) pa_nil))))
      (pss_one (ps_ret (pe_tup (pa_cons (pv 4) (pa_cons (pe_callTy call_tuple_of (by rfl) B.tuple (by decide +kernel) (pa_cons (pv 5) pa_nil)) (pa_cons (pe_callTy call_tuple_of (by rfl) B.tuple (by decide +kernel) (pa_cons (pv 11) pa_nil)) pa_nil)))))))))), ?_⟩
    refine ⟨_, rfl, _, rfl, p, c, sm, rfl, hP, by omega, log_small (by omega) (by omega), fun d H1 d0 d1 k1 => ⟨_, _, rfl, rfl, _, rfl, _, rfl, p, c, bm, rfl, k1.pen, by omega, log_small (by omega) (by omega), fun g H2 g0 g1 k2 => ⟨_, _, rfl, rfl, ?_⟩⟩⟩
    obtain ⟨S, hS⟩ : ∃ S : Nat, 1 + d = (S : Int) := ⟨(1 + d).toNat, by omega⟩
    obtain ⟨Bf, hB⟩ : ∃ Bf : Nat, 1 + g = (Bf : Int) := ⟨(1 + g).toNat, by omega⟩
    have kA := k1.trans k2
    refine ⟨(by show 2 ≤ sizeLine; decide), fun t0 ht0 => ⟨t0, _, rfl, SqT.of upd_same, rfl, .int (S : Int), [.int (Bf : Int)], (by show [V.int (1 + d), V.int (1 + g)] = [V.int (S : Int), V.int (Bf : Int)]; rw [hS, hB]), .int (Bf : Int), [], rfl, rfl, ?_⟩⟩
    have kB := kA.new (o := .tup [.int (1 + d), .int (1 + g)]) ht0
    clear ht0
    generalize upd H2 t0 (.tup [.int (1 + d), .int (1 + g)]) = H3 at kB ⊢
    -- the begins
    refine ⟨_, rfl, Bf, rfl, by omega, by omega, fun D hD => ?_⟩
    refine lc_range (lo := 0) (n := (Bf : Int).toNat) (fun i H' => Kp p c H H' ∧ H D = none ∧ ∃ zs : List Str, H' D = some (.lst (zs.map V.str)) ∧ zs.length = i ∧ ∀ z ∈ zs, Tx 2 z) ⟨kB.new hD, kB.free hD, [], upd_same, rfl, fun z hz => by cases hz⟩ ?_ ?_
    · rintro i H4 hi ⟨k4, D0, zs, hD4, hl, hz⟩
      refine ⟨rfl, ?_⟩
      have nDp := hP.ne D0
      have done : ∀ (z : Str) (H5 : Hp), Tx 2 z → Kp p c H4 H5 → ∃ acc, H5 D = some (.lst acc) ∧ acc.length < sizeLine ∧ Kp p c H (upd H5 D (.lst (acc ++ [.str z]))) ∧ H D = none ∧ ∃ zs : List Str, upd H5 D (.lst (acc ++ [.str z])) D = some (.lst (zs.map V.str)) ∧ zs.length = i + 1 ∧ ∀ z ∈ zs, Tx 2 z := by
        intro z H5 hz5 k5
        refine ⟨_, k5.but _ _ nDp hD4, ?_, (k4.trans k5).put hP D0, D0, zs ++ [z], ?_, ?_, ?_⟩
        · rw [List.length_map]
          exact Nat.lt_of_lt_of_le (show zs.length < 1000 by omega) (by decide)
        · rw [upd_same, List.map_append]
          rfl
        · rw [List.length_append, hl]
          rfl
        · intro y hy
          rcases List.mem_append.mp hy with hy | hy
          · exact hz y hy
          · obtain rfl := List.mem_singleton.mp hy
            exact hz5
      refine ⟨_, rfl, p, c, 4, rfl, k4.pen, by decide, by decide, fun d' H5 d0' d1' k5 => ⟨rfl, _, rfl, ?_⟩⟩
      refine ite2 (fun _ => ?_) (fun _ => ?_)
      · exact ⟨_, rfl, p, c, 2, rfl, k5.pen, by decide, by decide, fun z H6 _ hz6 k6 => done z H6 hz6 (k5.trans k6)⟩
      · exact done "" H5 ⟨by decide, fun c hc => by cases hc⟩ k5
    rintro H4 ⟨k4, D0, zs, hD4, hzl, hz⟩
    refine ⟨D, _, rfl, .inl ⟨SqL.of hD4, fun tb htb => ?_⟩⟩
    have tpb : Tp (upd H4 tb (.tup (zs.map V.str))) (.ref tb) (.tuple (zs.map .str)) := .tup upd_same (TpAll.map fun z _ => .str z)
    have k5 := k4.new (o := .tup (zs.map V.str)) htb
    clear htb hD4
    generalize upd H4 tb (.tup (zs.map V.str)) = H5 at tpb k5 ⊢
    refine ⟨Nat.zero_le _, fun R hR => ?_⟩
    have R0 : H R = none := k5.free hR
    have nRp := hP.ne R0
    -- the rows
    refine ⟨_, rfl, S, rfl, by omega, by omega, for_range (n := (S : Int).toNat) (fun i σ H' => (∃ v6 v7 v8 v9 v10 : Option V, σ = [some (.ref p), some (.int kk), some (.int S), some (.int Bf), some (.ref tb), some (.ref R), v6, v7, v8, v9, v10, none, none]) ∧
      Kp p c H H' ∧ Tp H' (.ref tb) (.tuple (zs.map .str)) ∧ ∃ rows : List (List (Option (Nat × List Rc))), LAt H' R (rows.map rowD) ∧ rows.length = i ∧ ∀ row ∈ rows, row.length = kk ∧ ∀ e ∈ row, EntOk S Bf e)
      ⟨⟨_, _, _, _, _, rfl⟩, k5.new hR, tpb.mono (tk_new hR), [], ⟨[], upd_same, .nil⟩, rfl, fun row hrow => by cases hrow⟩ ?_ ?_⟩
    · rintro i σ H6 hi ⟨⟨v6, v7, v8, v9, v10, rfl⟩, k6, tb6, rows, hR6, hrl, hrow⟩
      refine ⟨Nat.zero_le _, fun w' hw => ?_⟩
      have w0 : H w' = none := k6.free hw
      have nwp := hP.ne w0
      have nRw : R ≠ w' := by
        obtain ⟨vs, h1, _⟩ := hR6
        exact ne_of_none h1 hw
      refine ⟨_, rfl, kk, rfl, by omega, by omega, for_range (n := (kk : Int).toNat) (fun j σ H' => (∃ v8 v9 v10 : Option V, σ = [some (.ref p), some (.int kk), some (.int S), some (.int Bf), some (.ref tb), some (.ref R), some (.int (0 + (i : Int))), some (.ref w'), v8, v9, v10, none, none]) ∧
        Kp p c H H' ∧ Tp H' (.ref tb) (.tuple (zs.map .str)) ∧ LAt H' R (rows.map rowD) ∧ ∃ es : List (Option (Nat × List Rc)), LAt H' w' (es.map entD) ∧ es.length = j ∧ ∀ e ∈ es, EntOk S Bf e)
        ⟨⟨_, _, _, rfl⟩, k6.new hw, tb6.mono (tk_new hw), hR6.same (same_new hw), [], ⟨[], upd_same, .nil⟩, rfl, fun e he => by cases he⟩ ?_ ?_⟩
      · rintro j σ H7 hj ⟨⟨v8, v9, v10, rfl⟩, k7, tb7, hR7, es, hw7, hel, hes⟩
        refine ⟨_, rfl, _, rfl, p, c, S, rfl, k7.pen, by omega, log_small (by omega) (by omega), fun tg H8 t0 t1 k8 => ?_⟩
        refine ⟨_, rfl, _, rfl, p, c, Bf, rfl, k8.pen, by omega, fun fs ft H9 k9 tf hf => ⟨_, _, rfl, ?_⟩⟩
        have k10 := k7.trans (k8.trans k9)
        have k79 := k8.trans k9
        have tb9 := tb7.mono (k79.tk k7.pen)
        have hR9 := hR7.kp nRp k7.pen k79
        obtain ⟨vs, hv9, ha9⟩ := hw7.kp nwp k7.pen k79
        refine ⟨_, rfl, .inl ⟨rfl, _, SqL.of hv9⟩, _, rfl, p, c, 6, rfl, k9.pen, by decide, by decide, fun d6 H10 _ _ k11 => ⟨_, _, rfl, rfl, _, rfl, ?_⟩⟩
        have tb10 := tb9.mono (k11.tk k9.pen)
        have hR10 := hR9.kp nRp k9.pen k11
        have hv10 := k11.but _ _ nwp hv9
        have ha10 := ha9.mono (k11.tk k9.pen)
        have tf10 := tf.mono (k11.tk k9.pen)
        have k12 := k10.trans k11
        have hlen : vs.length < sizeLine := by
          rw [ha10.len, List.length_map]
          exact Nat.lt_of_lt_of_le (show es.length < 1000 by omega) (by decide)
        refine ite2 (fun _ => ?_) (fun _ => ?_)
        · refine ⟨_, rfl, _, rfl, (by show 2 ≤ sizeLine; decide), fun et het => ?_⟩
          have he10 : upd H10 et (.tup [.int tg, .ref ft]) w' = some (.lst vs) := by
            rw [upd_ne (ne_of_none hv10 het)]
            exact hv10
          refine ⟨w', vs, _, rfl, rfl, he10, hlen, ⟨_, _, _, rfl⟩, (k12.new het).put hP w0, (tb10.mono (tk_new het)).mono (tk_lst he10), (hR10.same (same_new het)).put he10 nRw, es ++ [some (tg.toNat, fs)], ?_, ?_, ?_⟩
          · rw [List.map_append]
            refine LAt.push he10 (ha10.mono (tk_new het)) (.tup upd_same (.cons ?_ (.cons (tf10.mono (tk_new het)) .nil)))
            rw [Int.toNat_of_nonneg t0]
            exact .int tg
          · rw [List.length_append, hel]
            rfl
          · intro e hm
            rcases List.mem_append.mp hm with hm | hm
            · exact hes e hm
            · obtain rfl := List.mem_singleton.mp hm
              intro t' fs' he
              cases he
              exact ⟨by omega, hf⟩
        · refine ⟨w', vs, _, rfl, rfl, hv10, hlen, ⟨_, _, _, rfl⟩, k12.put hP w0, tb10.mono (tk_lst hv10), hR10.put hv10 nRw, es ++ [none], ?_, ?_, ?_⟩
          · rw [List.map_append]
            exact LAt.push hv10 ha10 .non
          · rw [List.length_append, hel]
            rfl
          · intro e hm
            rcases List.mem_append.mp hm with hm | hm
            · exact hes e hm
            · obtain rfl := List.mem_singleton.mp hm
              intro t' fs' he
              cases he
      · rintro σ H7 ⟨⟨v8, v9, v10, rfl⟩, k7, tb7, hR7, es, hw7, hel, hes⟩
        obtain ⟨vs, hv7, ha7⟩ := hw7
        refine ⟨_, rfl, .inl ⟨rfl, _, SqL.of (show H7 R = _ from hR7.choose_spec.1)⟩, _, rfl, w', vs, rfl, .inl ⟨SqL.of hv7, fun rt hrt => ?_⟩⟩
        obtain ⟨us, hu7, hb7⟩ := hR7.same (same_new (o := .tup vs) hrt)
        refine ⟨R, us, _, rfl, rfl, hu7, ?_, ⟨_, _, _, _, _, rfl⟩, (k7.new hrt).put hP R0, (tb7.mono (tk_new hrt)).mono (tk_lst hu7), rows ++ [es], ?_, ?_, ?_⟩
        · rw [hb7.len, List.length_map]
          exact Nat.lt_of_lt_of_le (show rows.length < 1000 by omega) (by decide)
        · rw [List.map_append]
          exact LAt.push hu7 hb7 (.tup upd_same (ha7.mono (tk_new hrt)))
        · rw [List.length_append, hrl]
          rfl
        · intro row hm
          rcases List.mem_append.mp hm with hm | hm
          · exact hrow row hm
          · obtain rfl := List.mem_singleton.mp hm
            exact ⟨by omega, hes⟩
    rintro σ H6 ⟨⟨v6, v7, v8, v9, v10, rfl⟩, k6, tb6, rows, hR6, hrl, hrow⟩
    -- the ends
    refine ⟨_, rfl, S, rfl, by omega, by omega, fun D2 hD2 => ?_⟩
    have nRD : R ≠ D2 := by
      obtain ⟨vs, h1, _⟩ := hR6
      exact ne_of_none h1 hD2
    refine lc_range (lo := 0) (n := (S : Int).toNat) (fun i H' => Kp p c H H' ∧ H D2 = none ∧ Tp H' (.ref tb) (.tuple (zs.map .str)) ∧ LAt H' R (rows.map rowD) ∧ ∃ es : List (Option Rc), LAt H' D2 (es.map endD) ∧ es.length = i ∧ ∀ e ∈ es, ∀ q, e = some q → EOk Bf q ∧ ROk q)
      ⟨k6.new hD2, k6.free hD2, tb6.mono (tk_new hD2), hR6.same (same_new hD2), [], ⟨[], upd_same, .nil⟩, rfl, fun e he => by cases he⟩ ?_ ?_
    · rintro i H7 hi ⟨k7, D20, tb7, hR7, es, hw7, hel, hes⟩
      refine ⟨rfl, ?_⟩
      have nD2p := hP.ne D20
      refine ⟨_, rfl, _, rfl, p, c, Bf, rfl, k7.pen, by omega, fun r x H8 k8 tx hx => ?_⟩
      obtain ⟨vs, hv8, ha8⟩ := hw7.kp nD2p k7.pen k8
      refine ⟨vs, hv8, ?_, (k7.trans k8).put hP D20, D20, (tb7.mono (k8.tk k7.pen)).mono (tk_lst hv8), (hR7.kp nRp k7.pen k8).put hv8 nRD, es ++ [r], ?_, ?_, ?_⟩
      · rw [ha8.len, List.length_map]
        exact Nat.lt_of_lt_of_le (show es.length < 1000 by omega) (by decide)
      · rw [List.map_append]
        exact LAt.push hv8 ha8 tx
      · rw [List.length_append, hel]
        rfl
      · intro e hm
        rcases List.mem_append.mp hm with hm | hm
        · exact hes e hm
        · obtain rfl := List.mem_singleton.mp hm
          exact hx
    · rintro H7 ⟨k7, D20, tb7, hR7, es, hw7, hel, hes⟩
      obtain ⟨us, hu7, hb7⟩ := hR7
      obtain ⟨vs, hv7, ha7⟩ := hw7
      refine ⟨_, rfl, _, rfl, R, us, rfl, .inl ⟨SqL.of hu7, fun ra hra => ?_⟩⟩
      refine ⟨_, rfl, D2, vs, rfl, .inl ⟨SqL.of (by rw [upd_ne (ne_of_none hv7 hra)]; exact hv7), fun ea hea => ?_⟩⟩
      refine ⟨(by show 3 ≤ sizeLine; decide), fun t ht => ?_⟩
      have s1' : TK H7 (upd (upd (upd H7 ra (.tup us)) ea (.tup vs)) t (.tup [.ref tb, .ref ra, .ref ea])) := ((tk_new hra).trans (tk_new hea)).trans (tk_new ht)
      refine k ⟨zs, rows, es⟩ S Bf t _ (by omega) (by omega) (by omega) (by omega) ⟨by show zs.length = Bf; omega, hz, by show rows.length = S; omega, hrow, by show es.length = S; omega, fun e he q hq => (hes e he q hq).1⟩ (fun e he q hq => (hes e he q hq).2) (((k7.new hra).new hea).new ht) (.tup upd_same (.cons (tb7.mono s1') (.cons (.tup ?_ (hb7.mono s1')) (.cons (.tup ?_ (ha7.mono s1')) .nil))))
      · exact (tk_new ht) _ _ ((tk_new hea) _ _ upd_same)
      · exact (tk_new ht) _ _ upd_same
theorem cal_writer (F : C8.Def K mg "_law_writer" st_law_writer f fd) (b : Binds K fd ["pen", "count", "states", "buffers"] []) (B : BN2 mg) (Cd : Cal P w K mg base 2 "_law_draw" spDraw []) (Cp : Cal P w K mg base 4 "_law_piece" spPiece [])
    (Cf : Cal P w K mg base 6 "_law_fills" spFills []) (Ce : Cal P w K mg base 6 "_law_end" spEnd []) : Cal P w K mg base 7 "_law_writer" spWriter [] := by
  obtain ⟨g, gd, ps, ds, h1, h2⟩ := (cal_writerT F b B Cd Cp Cf Ce).ex
  refine ⟨g, gd, ps, ds, h1.imp fun vs H Q E q => ?_, h2⟩
  obtain ⟨p, c, k, sm, bm, e1, e2, e3, e4, e5, e6, e7, kk⟩ := q
  exact ⟨p, c, k, sm, bm, e1, e2, e3, e4, e5, e6, e7, fun W S B t H' a1 a2 a3 a4 a5 _ a6 a7 => kk W S B t H' a1 a2 a3 a4 a5 a6 a7⟩
end

/-! ### repr of data -/
theorem str_len (s : String) : (Str.ofString s).length = s.length := ofString_length s
/-- data that may be shown: no deeper than k, its weight at most n -/
structure Neat (k n : Nat) (d : PyData) : Prop where
  lay : d.canLay0 = true
  sh : d.showable = true
  shorts : d.intsShort 13 = true
  dep : d.depth ≤ k
  wt : d.weight ≤ n
structure NeatAll (k n : Nat) (ds : List PyData) : Prop where
  lay : PyData.canLayAll0 ds = true
  sh : PyData.showableAll ds = true
  shorts : PyData.intsShortAll 13 ds = true
  dep : PyData.depthAll ds ≤ k
  wt : PyData.weightAll ds ≤ n
theorem Neat.le {k n k' n' : Nat} {d : PyData} (h : Neat k n d) (hk : k ≤ k') (hn : n ≤ n') : Neat k' n' d := ⟨h.lay, h.sh, h.shorts, Nat.le_trans h.dep hk, Nat.le_trans h.wt hn⟩
theorem NeatAll.le {k n k' n' : Nat} {d : List PyData} (h : NeatAll k n d) (hk : k ≤ k') (hn : n ≤ n') : NeatAll k' n' d := ⟨h.lay, h.sh, h.shorts, Nat.le_trans h.dep hk, Nat.le_trans h.wt hn⟩
theorem neat_none : Neat 0 0 .none := ⟨by simp only [PyData.canLay0], by simp only [PyData.showable], by simp only [PyData.intsShort], by simp only [PyData.depth, Nat.le_refl], by simp only [PyData.weight, Nat.le_refl]⟩
theorem neat_bool (b : Bool) : Neat 0 0 (.bool b) := ⟨by simp only [PyData.canLay0], by simp only [PyData.showable], by simp only [PyData.intsShort], by simp only [PyData.depth, Nat.le_refl], by simp only [PyData.weight, Nat.le_refl]⟩
theorem neat_str {z : Str} (h : PyData.strOk z = true) : Neat 0 z.length (.str z) := ⟨by simp only [PyData.canLay0, h], by simp only [PyData.showable], by simp only [PyData.intsShort], by simp only [PyData.depth, Nat.le_refl], by simp only [PyData.weight]; exact Nat.le_refl _⟩
theorem neat_int {i : Int} (h : i.natAbs < 10 ^ 9) : Neat 0 40 (.int i) := by
  have h2 : i.natAbs.log2 < 30 := by
    by_cases h0 : i.natAbs = 0
    · rw [h0]
      decide
    · rw [Nat.log2_lt h0]
      omega
  refine ⟨by simp only [PyData.canLay0], ?_, ?_, by simp only [PyData.depth, Nat.le_refl], ?_⟩
  · simp only [PyData.showable, decide_eq_true_eq]
    omega
  · simp only [PyData.intsShort, PyData.shown, decide_eq_true_eq]
    have q := int_text_length_le10 (a := i) (k := 12) (by decide) (Nat.lt_trans h (by decide))
    exact decide_eq_true (Nat.le_trans (Nat.le_of_eq (str_len _)) q)
  · simp only [PyData.weight]
    split <;> omega
theorem neatAll_nil {k : Nat} : NeatAll k 0 [] := ⟨by simp only [PyData.canLayAll0], by simp only [PyData.showableAll], by simp only [PyData.intsShortAll], by simp only [PyData.depthAll, Nat.zero_le], by simp only [PyData.weightAll, Nat.le_refl]⟩
theorem NeatAll.cons {k a b : Nat} {d : PyData} {ds : List PyData} (h : Neat k a d) (hs : NeatAll k b ds) : NeatAll k (a + 1 + b) (d :: ds) :=
  ⟨by simp only [PyData.canLayAll0, h.lay, hs.lay, Bool.and_self], by simp only [PyData.showableAll, h.sh, hs.sh, Bool.and_self], by simp only [PyData.intsShortAll, h.shorts, hs.shorts, Bool.and_self],
    by simp only [PyData.depthAll]; exact Nat.max_le.mpr ⟨h.dep, hs.dep⟩, by simp only [PyData.weightAll]; exact Nat.add_le_add (Nat.add_le_add_right h.wt 1) hs.wt⟩
theorem NeatAll.tup {k n : Nat} {ds : List PyData} (h : NeatAll k n ds) : Neat (k + 1) n (.tuple ds) :=
  ⟨by simp only [PyData.canLay0, h.lay], by simp only [PyData.showable, h.sh], by simp only [PyData.intsShort, h.shorts], by simp only [PyData.depth]; exact Nat.succ_le_succ h.dep, by simp only [PyData.weight]; exact h.wt⟩
theorem NeatAll.lst {k n : Nat} {ds : List PyData} (h : NeatAll k n ds) : Neat (k + 1) n (.list ds) :=
  ⟨by simp only [PyData.canLay0, h.lay], by simp only [PyData.showable, h.sh], by simp only [PyData.intsShort, h.shorts], by simp only [PyData.depth]; exact Nat.succ_le_succ h.dep, by simp only [PyData.weight]; exact h.wt⟩
theorem neatAll_map {α : Type} {k a : Nat} {g : α → PyData} : ∀ {l : List α}, (∀ x ∈ l, Neat k a (g x)) → NeatAll k (l.length * (a + 1)) (l.map g)
  | [], _ => by
    rw [List.length_nil, Nat.zero_mul]
    exact neatAll_nil
  | x :: r, h => by
    have q := NeatAll.cons (h x List.mem_cons_self) (neatAll_map (l := r) fun y hy => h y (List.mem_cons_of_mem _ hy))
    rw [List.map_cons, List.length_cons, Nat.succ_mul]
    exact q.le (Nat.le_refl _) (by omega)
theorem Neat.fits {k n : Nat} {d : PyData} (h : Neat k n d) (hk : k ≤ 50) (hn : n ≤ 1000000) : d.shown.length ≤ sizeLine := by
  have e : (2 : Nat) ^ 20 = 1048576 := by decide
  have hl : PyData.layable0 d = true := by
    show (PyData.canLay0 d && decide (PyData.depth d ≤ 64) && decide (PyData.weight d ≤ 2 ^ 20)) = true
    have d1 := h.dep
    have d2 := h.wt
    rw [h.lay, decide_eq_true (show d.depth ≤ 64 by omega), decide_eq_true (show d.weight ≤ 2 ^ 20 by omega)]
    rfl
  exact Nat.le_trans (PyProof.Rows.shown_le13 hl h.shorts) (by decide)

/-- repr(x), x some data -/
def rRepr (K : PySem.W.Frag) : List V → Hp → VK → Prop := fun xs H Q => ∃ (x : V) (d : PyData) (k n : Nat), xs = [x] ∧ Dp K H x d ∧ Neat k n d ∧ k ≤ 50 ∧ n ≤ 1000000 ∧ Q (.str d.shown) H
theorem call_repr {X : Cx} (hg : X.A.guards = some []) (hu : X.A.units + 64 < cLine) : CallR X (.builtin "repr") (rRepr X.K) := by
  intro pins s σ H xs us Q I rel h
  obtain ⟨x, d, k, n, rfl, hd, hn, hk, hw, q⟩ := h
  obtain ⟨u, rfl, ru⟩ := vals1 rel
  obtain ⟨as, rr⟩ := Dp.reads I d x u hd ru
  have fits := hn.fits hk hw
  cases hd with
  | non =>
    cases ru
    exact PySem.P.repr_of_none ⟨.str _, H, I.tok _, ⟨_, rfl⟩, q⟩
  | bl b =>
    cases ru
    exact PySem.P.repr_of_bool ⟨.str _, H, I.tok _, ⟨_, rfl⟩, q⟩
  | int i =>
    obtain ⟨t, rfl⟩ := ru
    exact PySem.P.repr_of_int (by have := hn.sh; simpa only [PyData.showable, decide_eq_true_eq] using this) ⟨.str _, H, I.tok _, ⟨_, rfl⟩, q⟩
  | str z =>
    obtain ⟨t, rfl⟩ := ru
    exact PySem.P.repr_of_str ⟨.str _, H, I.tok _, ⟨_, rfl⟩, q⟩ fits
  | lst _ _ =>
    cases ru
    have dd := hn.dep
    exact repr_of_reads' rr hn.sh (PyData.noDict_hsm (PyData.hasDict_of_canLay _ hn.lay)) hg (by omega) (fun _ _ e => e) (fun h' u tk kk => ⟨.str _, H, I.kept kk, ⟨_, rfl⟩, q⟩) fits
  | tup _ _ =>
    cases ru
    have dd := hn.dep
    exact repr_of_reads' rr hn.sh (PyData.noDict_hsm (PyData.hasDict_of_canLay _ hn.lay)) hg (by omega) (fun _ _ e => e) (fun h' u tk kk => ⟨.str _, H, I.kept kk, ⟨_, rfl⟩, q⟩) fits

/-! ### a def that is called where no container is being shown -/
structure FnG (P : Program) (w : World) (K : PySem.W.Frag) (mg : Str → Option Value) (base : Heap) (k : Nat) (f : Addr) (fd : FuncData) (ps : List Str) (sp : Sp) : Prop where
  many : ∀ vs H Q E, sp vs H Q E → vs.length = ps.length
  goes : ∀ (A : Around) (outer : List Env) (s : Shared) (H : Hp) (args : Args) (us : List Value) (vs : List V) (Q : VK) (E : XK), A.guards = some [] → Room k A → Env0 P w K mg base A outer s H → BindsTo s fd args (ps.zip us) → Vals vs us →
    sp vs H Q E → codeAny (model P w) A (.call (.ref f) args) (CR CX0 outer P w H s Q E) s
section
open PySem.Spec PyProof.Rows
variable {P : Program} {w : World} {K : PySem.W.Frag} {mg : Str → Option Value} {base : Heap}
/-- by its body -/
theorem fnG_by {x qual : Str} {st : Stmt} {f : Addr} {fd : FuncData} {N ps : List Str} {k : Nat} {sp : Sp} (F : C8.Fun K x qual st f fd) (sc : FnScope N ps (fnScope st)) (many : ∀ vs H Q E, sp vs H Q E → vs.length = ps.length)
    (body : ∀ (cdv : Value) (A : Around) (outer : List Env) (s : Shared) (H : Hp) (vs : List V) (Q : VK) (E : XK), A.guards = some [] → Room k (A.deeper (envOfC qual (fnScope st) s.heap.objs.size f cdv)) → sp vs H Q E →
      ∃ t, PSs (cxOf CX0 P w K mg base N qual (fnScope st) f cdv A outer s H E).nox (fnBody st) t ∧ t { nx := fun _ H1 => Q .non H1, rt := Q } (start N vs) H) : FnG P w K mg base (k + 1) f fd ps sp := by
  obtain ⟨oc, od, dV, kV, doc, pm, an, cdv, ct, osl, rfl, atF, code⟩ := F.ex
  constructor
  · exact many
  · intro A outer s H args us vs Q E gu room e0 binds rel asked
    have n := many _ _ _ _ asked
    have kept : ∀ b o, base.get? b = some o → s.heap.get? b = some o := fun b o e => (e0.bs b o e).1
    have inK := e0.mod.kin.keeps kept
    have local' : ∀ y ∈ ps.zip us, (fnScope st).names.lookup y.1 = some .local ∨ ((fnScope st).names.lookup y.1 = some .cell ∧ ((cellsFrom (s.heap.objs.size + 1) (fnScope st).names []).lookup y.1).isSome = true) := by
      rintro ⟨nm, v⟩ mem
      exact (sc.par nm (List.of_mem_zip mem).1).imp id fun c => ⟨c, PySem.W.cellsFrom_some _ _ _ (.inl c)⟩
    refine codeAny_call_function room.depth (inK _ _ atF) rfl sc.co sc.gen rfl (PySem.W.codeRec_of inK code) (binds _ _ _ _ (wpAny_newFunctionEnv_cells sc.kind local' fun env eqE s1 made => ?_))
    cases eqE
    refine ⟨(e0.mod.nolimit.keeps kept).keeps made.toInCall.keep, codeAny_func ?_⟩
    obtain ⟨t, hold, ask⟩ := body cdv A outer s H vs Q E gu (room.deeper _) asked
    refine wpAny_mono (hold.nox.run [] s1 (start N vs) H _ (inv_start sc room.hd e0 n rel made) ask) (fun fl s2 got => ?_) fun _ _ z => z
    cases fl
    case ret u =>
      obtain ⟨v, _, H1, J, rv, q⟩ := got
      exact ⟨v, H1, J.os, J.bare, J.base, J.hok, rv, q⟩
    case next =>
      obtain ⟨_, H1, J, q⟩ := got
      exact ⟨V.non, H1, J.os, J.bare, J.base, J.hok, rfl, q⟩
    case brk =>
      obtain ⟨_, _, _, q⟩ := got
      exact q.elim
    case cont =>
      obtain ⟨_, _, _, q⟩ := got
      exact q.elim
end

/-! ### the end: the law's own def, called with the script -/
section
open PySem.Spec PyProof.Rows
theorem are_vals : ∀ {us : List Value} {ns : List Int}, IntsAre us ns → Vals (ns.map V.int) us
  | _, _, .nil => .nil
  | _, _, .cons _ t r => .cons ⟨t, rfl⟩ (are_vals r)
theorem lawG_end {P : Program} {w : World} {K : PySem.W.Frag} {mg mb : Str → Option Value} {k : Nat} {fa a : Addr} {fd : FuncData} {x : Str} {sp : Sp} {s₁ : Shared} {us : List Value} {ns : List Int}
    (inK : K.In s₁.heap) (gl : s₁.heap.Ns mainGlobals mg) (bl : s₁.heap.Ns builtinsNs mb) (boot : ∀ y : Str, y ≠ "__name__" → mb y = bootBuiltins y) (lim : s₁.heap.NoLimit) (gens : s₁.gens = #[])
    (at_a : s₁.heap.get? a = some { cls := .type "list", data := .seq us.toArray }) (are : IntsAre us ns) (few : ns.length ≤ sizeLine) (room : Room k callerA)
    (F : ∀ base : Heap, K.In base → base.Ns mainGlobals mg → FnG P w K mg base k fa fd [x] sp) (binds : ∀ (s : Shared) (u : Value), BindsTo s fd ⟨[u], []⟩ [(x, u)])
    (asked : ∀ H : Hp, SqL K H a (ns.map V.int) → sp [.ref a] H (fun v _ => v = .bl true) fun _ _ _ => False) :
    codeAny (model P w) callerA (.call (.ref fa) ⟨[.ref a], []⟩) (fun r s' => r = .ok (.ret (.bool true)) ∧ OldK s₁.heap s'.heap ∧ s'.os = s₁.os ∧ AllBare s'.gens) s₁ := by
  have rel := are_vals are
  have n_us := are.length
  suffices core : ∀ H : Hp, (∀ b u, H b = some u → b = a ∧ u = .frz { cls := .type "list", data := .seq us.toArray } (.lst (ns.map V.int)) ∧ K.lookup a = none) → SqL K H a (ns.map V.int) →
      codeAny (model P w) callerA (.call (.ref fa) ⟨[.ref a], []⟩) (fun r s' => r = .ok (.ret (.bool true)) ∧ OldK s₁.heap s'.heap ∧ s'.os = s₁.os ∧ AllBare s'.gens) s₁ by
    cases inF : K.lookup a with
    | some o =>
      have same := inK a o inF
      rw [at_a] at same
      cases same
      refine core (fun _ => none) (fun b u z => by cases z) (.inr ⟨_, us.toArray, _, inF, rfl, rfl, rfl, ?_, ?_⟩)
      · rw [List.size_toArray, n_us]
        exact few
      · rw [List.toList_toArray]
        exact rel
    | none =>
      refine core (fun b => if b = a then some (.frz { cls := .type "list", data := .seq us.toArray } (.lst (ns.map V.int))) else none) (fun b u z => ?_) (.inl (.inr ⟨_, if_pos rfl⟩))
      by_cases e : b = a
      · refine ⟨e, ?_, inF⟩
        have z' : (if b = a then some (HO.frz { cls := .type "list", data := .seq us.toArray } (.lst (ns.map V.int))) else none) = some u := z
        rw [if_pos e] at z'
        exact (Option.some.inj z').symm
      · have z' : (if b = a then some (HO.frz { cls := .type "list", data := .seq us.toArray } (.lst (ns.map V.int))) else none) = some u := z
        rw [if_neg e] at z'
        cases z'
  intro H only sq
  have keepK : K.In (hidT s₁.heap H) := fun b o e => hidT_get (inK b o e) (by
    cases q : H b with
    | none => rfl
    | some u =>
      obtain ⟨e1, _, e2⟩ := only b u q
      rw [e1, e2] at e
      cases e)
  have keepN : ∀ {b : Addr} {m : Str → Option Value}, s₁.heap.Ns b m → (hidT s₁.heap H).Ns b m := by
    rintro b m ⟨o, es, ep, e, d, r⟩
    refine ⟨o, es, ep, hidT_get e ?_, d, r⟩
    cases q : H b with
    | none => rfl
    | some u =>
      obtain ⟨e1, _, _⟩ := only b u q
      rw [e1, at_a] at e
      cases e
      cases d
  have ok : HOk P w H s₁.heap := by
    intro b u q
    obtain ⟨rfl, rfl, _⟩ := only b u q
    exact ⟨at_a, (by rw [List.length_map]; exact few), us, _, rel, at_a⟩
  have start : Env0 P w K mg (hidT s₁.heap H) callerA [] s₁ H := by
    refine ⟨rfl, ⟨keepK, keepN gl, ⟨mb, keepN bl, boot⟩, ?_⟩, fun b o e => of_hidT e, Nat.le_of_eq (hidT_size _ _), trivial, fun b hb => ?_, ok, .of_eq gens⟩
    · obtain ⟨mc, h1, h2⟩ := lim
      exact ⟨mc, keepN h1, h2⟩
    · cases hb
  refine codeAny_mono ((F _ keepK (keepN gl)).goes callerA [] s₁ H ⟨[.ref a], []⟩ [.ref a] [.ref a] _ _ rfl room start (binds s₁ (.ref a)) (.cons rfl .nil) (asked H sq)) fun r s' got => ?_
  match r, got with
  | .error _, got => exact False.elim got
  | .ok .next, got => exact False.elim got
  | .ok .brk, got => exact False.elim got
  | .ok .cont, got => exact False.elim got
  | .ok (.ret u), got =>
    obtain ⟨v, H2, os, bare, un, ok2, ru, q⟩ := got
    have q' : v = .bl true := q
    rw [q'] at ru
    have eu : u = Value.bool true := ru
    refine ⟨by rw [eu], OldK.of_keep fun b o e => ?_, os, bare⟩
    cases z : H b with
    | none => exact un.keep b o e z (fun y => by cases y) (fun y => by cases y)
    | some y =>
      obtain ⟨rfl, rfl, _⟩ := only b y z
      rw [at_a] at e
      cases e
      exact (ok2 _ _ (un.frzs _ _ _ z)).1
/-- the goal that k_head leaves, from the law's promise -/
theorem walkG {l : PySem.W.OpenLaw} {k : Nat} {q : Program} {loose : List Str} {XP : (Str → Option Value) → Heap → Prop} {YP : World → Heap → Prop} {d : DefRec} {K : Params → PySem.W.Frag} {sp : PySem.W.Frag → Sp} {x : Str}
    (most : l.most = some 63) (noDflt : d.params.defaults = []) (room : Room k callerA) (inK : ∀ (w : World) (h : Heap), YP w h → (K w.params).In h)
    (F : ∀ (w : World) (mg : Str → Option Value) (fa : Addr) (h : Heap), (K w.params).In h → h.Ns mainGlobals mg → mg d.name = some (.ref fa) →
      ∃ fd : FuncData, (∀ (s : Shared) (u : Value), BindsTo s fd ⟨[u], []⟩ [(x, u)]) ∧ ∀ base : Heap, (K w.params).In base → base.Ns mainGlobals mg → FnG l.prog w (K w.params) mg base k fa fd [x] (sp (K w.params)))
    (asked : ∀ (K : PySem.W.Frag) (H : Hp) (a : Addr) (ns : List Int), ns.length ≤ 63 → SqL K H a (ns.map V.int) → sp K [.ref a] H (fun v _ => v = .bl true) fun _ _ _ => False) :
    PySem.W.WalkO q loose XP YP l.row.toRowW d [] (fun g us => PySem.call g us) := by
  refine Att.attach_call most noDflt fun w s₀ s₁ mg mb fa o pm cd doc a us ns G Y _ _ _ named obj are few gens => ?_
  have KX := inK w _ Y
  obtain ⟨fd, binds, hF⟩ := F w mg fa _ KX G.T.g named
  exact lawG_end KX G.T.g G.T.b G.T.builtins G.T.nolimit gens obj are (Nat.le_trans few (by decide)) room hF binds fun H sq => asked (K w.params) H a ns few sq
end

/-! ### data that is a tuple -/
theorem Tp.tup_inv {H : Hp} {v : V} {ds : List PyData} (h : Tp H v (.tuple ds)) : ∃ a xs, v = .ref a ∧ H a = some (.tup xs) ∧ TpAll H xs ds := by
  cases h with
  | tup h hs => exact ⟨_, _, rfl, h, hs⟩
theorem Tp.int_inv {H : Hp} {v : V} {i : Int} (h : Tp H v (.int i)) : v = .int i := by
  cases h
  rfl
theorem Tp.str_inv {H : Hp} {v : V} {z : Str} (h : Tp H v (.str z)) : v = .str z := by
  cases h
  rfl
theorem Tp.non_inv {H : Hp} {v : V} (h : Tp H v .none) : v = .non := by
  cases h
  rfl
theorem tpAll_strs {H : Hp} : ∀ {ts : List Str} {xs : List V}, TpAll H xs (ts.map .str) → xs = ts.map V.str
  | [], _, .nil => rfl
  | z :: r, _, .cons h hs => by rw [h.str_inv, tpAll_strs hs, List.map_cons]
theorem tpAll_ints {H : Hp} : ∀ {ns : List Int} {xs : List V}, TpAll H xs (ns.map .int) → xs = ns.map V.int
  | [], _, .nil => rfl
  | z :: r, _, .cons h hs => by rw [h.int_inv, tpAll_ints hs, List.map_cons]
theorem tpAll_parts {H : Hp} : ∀ {r : Rc} {xs : List V}, TpAll H xs (r.map Pt.d) → xs = r.map Pt.v
  | [], _, .nil => rfl
  | .s z :: r, _, .cons h hs => by rw [h.str_inv, tpAll_parts hs, List.map_cons]; rfl
  | .b i :: r, _, .cons h hs => by rw [h.int_inv, tpAll_parts hs, List.map_cons]; rfl
theorem Same.put {H H' : Hp} {q : Addr} {o : HO} (s : Same H H') (hq : H q = none) : Same H (upd H' q o) := fun b u e => by
  rw [upd_ne (ne_of_none e hq)]
  exact s b u e
/-- one part of a row of data that is a map -/
theorem TpAll.at {H : Hp} {α : Type} {g : α → PyData} {vs : List V} {l : List α} {i : Nat} {x : α} (h : TpAll H vs (l.map g)) (e : l[i]? = some x) : ∃ v, vs[i]? = some v ∧ Tp H v (g x) :=
  h.get (by rw [List.getElem?_map, e]; rfl)
theorem take_map_more {α β : Type} {l : List α} {g : α → β} {i : Nat} {x : α} (h : l[i]? = some x) : (l.take (i + 1)).map g = (l.take i).map g ++ [g x] := by
  rw [List.take_add_one, h, List.map_append]
  rfl
theorem ix_tupK {X : Cx} (K : PySem.W.Frag) (h : X.K = K := by rfl) : IxR X (rIxT K) := by
  rw [← h]
  exact ix_tup
theorem ix_listK {X : Cx} (K : PySem.W.Frag) (h : X.K = K := by rfl) : IxR X (rIxL K) := by
  rw [← h]
  exact ix_list
theorem isiK {X : Cx} (K : PySem.W.Frag) (h : X.K = K := by rfl) : CallR X (.builtin "isinstance") (rIsi K) := by
  rw [← h]
  exact call_isi
theorem op_catAK {X : Cx} (K : PySem.W.Frag) (h : X.K = K := by rfl) : OpR X (binaryOp .Add) (rCatA K) := by
  rw [← h]
  exact op_catA
theorem iN_app (a : List Nat) (j : Nat) : (iN (a ++ [j])).map V.int = (iN a).map V.int ++ [.int j] := by
  unfold iN
  rw [List.map_append, List.map_append]
  rfl

/-! ### what writers make of words -/
def ptx (ts : List Str) : Pt → Str
  | .s z => z
  | .b i => ts.getD i ""
/-- what a recipe makes of texts -/
def mk (ts : List Str) (r : Rc) : Str := Txt.join "" (r.map (ptx ts))
def tot (ts : List Str) : Nat := (ts.map (·.length)).sum
def lowT (ts : List Str) : Prop := ∀ z ∈ ts, ∀ c ∈ z.cps.toList, 97 ≤ c ∧ c ≤ 122
theorem getD_low {ts : List Str} (h : lowT ts) (i : Nat) : ∀ c ∈ (ts.getD i "").cps.toList, 97 ≤ c ∧ c ≤ 122 := by
  rw [List.getD_eq_getElem?_getD]
  cases e : ts[i]? with
  | none =>
    intro c hc
    have hc' : c ∈ ("" : Str).cps.toList := hc
    cases hc'
  | some z => exact h z (List.mem_of_getElem? e)
theorem mk_low {ts : List Str} {r : Rc} (h : lowT ts) (hr : lowR r) : ∀ c ∈ (mk ts r).cps.toList, 97 ≤ c ∧ c ≤ 122 := by
  intro c hc
  unfold mk at hc
  rw [join_cps] at hc
  obtain ⟨l, h1, h2⟩ := List.mem_flatten.mp hc
  obtain ⟨y, h3, rfl⟩ := List.mem_map.mp h1
  obtain ⟨q, h4, rfl⟩ := List.mem_map.mp h3
  cases q with
  | s z => exact hr _ h4 c h2
  | b i => exact getD_low h i c h2
theorem mk_len (ts : List Str) : ∀ r : Rc, (mk ts r).length = lets r + ((bufs r).map fun i => (ts.getD i "").length).sum := by
  intro r
  unfold mk
  rw [join_len, List.map_map]
  induction r with
  | nil => rfl
  | cons q r ih =>
    rw [List.map_cons, List.sum_cons, ih]
    cases q with
    | s z =>
      have e1 : lets (.s z :: r) = z.length + lets r := by
        unfold lets
        rw [List.map_cons, List.sum_cons]
        rfl
      have e2 : bufs (.s z :: r) = bufs r := by
        unfold bufs
        rw [List.flatMap_cons]
        rfl
      rw [e1, e2, Nat.add_assoc]
      rfl
    | b i =>
      have e1 : lets (.b i :: r) = lets r := by
        unfold lets
        rw [List.map_cons, List.sum_cons]
        exact Nat.zero_add _
      have e2 : bufs (.b i :: r) = i :: bufs r := by
        unfold bufs
        rw [List.flatMap_cons]
        rfl
      rw [e1, e2, List.map_cons, List.sum_cons]
      show (ts.getD i "").length + (lets r + _) = _
      omega
theorem perm_sum {l m : List Nat} (h : l.Perm m) : l.sum = m.sum := by
  induction h with
  | nil => rfl
  | cons x _ ih => rw [List.sum_cons, List.sum_cons, ih]
  | swap x y l => rw [List.sum_cons, List.sum_cons, List.sum_cons, List.sum_cons]; omega
  | trans _ _ a b => exact a.trans b
theorem sub_sum {g : Nat → Nat} : ∀ (l m : List Nat), l.Nodup → (∀ i ∈ l, i ∈ m) → (l.map g).sum ≤ (m.map g).sum
  | [], m, _, _ => Nat.zero_le _
  | a :: r, m, nd, h => by
    rw [List.nodup_cons] at nd
    have pm := List.perm_cons_erase (h a List.mem_cons_self)
    have e := perm_sum (pm.map g)
    rw [e, List.map_cons, List.map_cons, List.sum_cons, List.sum_cons]
    refine Nat.add_le_add_left (sub_sum r (m.erase a) nd.2 fun i hi => ?_) _
    have ne : i ≠ a := fun z => nd.1 (z ▸ hi)
    exact (List.mem_erase_of_ne ne).mpr (h i (List.mem_cons_of_mem _ hi))
theorem range_tot : ∀ (ts : List Str), ((List.range ts.length).map fun i => (ts.getD i "").length).sum = tot ts := by
  intro ts
  have e : (List.range ts.length).map (fun i => (ts.getD i "").length) = ts.map (·.length) := by
    refine List.ext_getElem (by rw [List.length_map, List.length_map, List.length_range]) fun i h1 h2 => ?_
    rw [List.length_map] at h2
    rw [List.getElem_map, List.getElem_map, List.getElem_range, List.getD_eq_getElem?_getD, List.getElem?_eq_getElem h2]
    rfl
  rw [e]
  rfl
theorem bufs_tot {ts : List Str} {l : List Nat} {n : Nat} (nd : l.Nodup) (h : ∀ i ∈ l, i < n) (e : ts.length = n) : (l.map fun i => (ts.getD i "").length).sum ≤ tot ts := by
  rw [← range_tot ts, e]
  exact sub_sum _ _ nd fun i hi => List.mem_range.mpr (h i hi)
theorem tot_all (ts : List Str) : ∀ fs : List Rc, tot (fs.map (mk ts)) = (fs.map lets).sum + ((fs.flatMap bufs).map fun i => (ts.getD i "").length).sum
  | [] => rfl
  | r :: fs => by
    have ih := tot_all ts fs
    unfold tot at ih ⊢
    rw [List.map_cons, List.map_cons, List.sum_cons, ih, mk_len, List.map_cons, List.sum_cons, List.flatMap_cons, List.map_append, List.sum_append]
    omega
theorem lets_all {n : Nat} : ∀ fs : List Rc, (∀ r ∈ fs, lets r ≤ n) → (fs.map lets).sum ≤ n * fs.length
  | [], _ => Nat.zero_le _
  | r :: fs, h => by
    have a := h r List.mem_cons_self
    have b := lets_all fs fun x hx => h x (List.mem_cons_of_mem _ hx)
    rw [List.map_cons, List.sum_cons, List.length_cons, Nat.mul_succ]
    omega
theorem tot_step {ts : List Str} {fs : List Rc} {n : Nat} (h : FOk n fs) (e : ts.length = n) : tot (fs.map (mk ts)) ≤ 10 * n + tot ts := by
  rw [tot_all]
  have a := lets_all fs fun r hr => (h.each r hr).lt
  have b := bufs_tot h.nd h.lt e
  rw [h.len] at a
  omega
theorem tot_mem : ∀ {ts : List Str} {z : Str}, z ∈ ts → z.length ≤ tot ts
  | y :: r, z, h => by
    unfold tot
    rw [List.map_cons, List.sum_cons]
    rcases List.mem_cons.mp h with rfl | h
    · omega
    · have := tot_mem h
      unfold tot at this
      omega
theorem mk_end {ts : List Str} {r : Rc} {n : Nat} (h : EOk n r) (e : ts.length = n) : (mk ts r).length ≤ 12 + tot ts := by
  rw [mk_len]
  have a := h.ok.lt
  have b := bufs_tot h.nd h.lt e
  omega

/-- where an entry leads from texts -/
def goE (ts : List Str) : Option (Nat × List Rc) → Option (Nat × List Str)
  | none => none
  | some (t, fs) => some (t, fs.map (mk ts))
/-- a kind more behind a situation -/
def stepW (W : Wr) (o : Option (Nat × List Str)) (k : Nat) : Option (Nat × List Str) :=
  match o with
  | none => none
  | some (st, ts) => goE ts ((W.rules.getD st []).getD k none)
def runW (W : Wr) (ns : List Nat) : Option (Nat × List Str) := ns.foldl (stepW W) (some (0, W.begins))
def tellW (W : Wr) (ns : List Nat) : Option Str :=
  match runW W ns with
  | none => none
  | some (st, ts) => match W.ends.getD st none with
    | none => none
    | some r => some (mk ts r)
def sitD : Option (Nat × List Str) → PyData
  | none => .none
  | some (st, ts) => .tuple [.int st, .tuple (ts.map .str)]
def txtD : Option Str → PyData
  | none => .none
  | some z => .str z
/-- a situation of a writer with S states, B buffers; its texts have at most n letters -/
structure SOk (S B n : Nat) (st : Nat) (ts : List Str) : Prop where
  st : st < S
  len : ts.length = B
  tot : tot ts ≤ n
  low : lowT ts
theorem ent_at {k S B : Nat} {W : Wr} (h : WOk k S B W) {st kd : Nat} (hs : st < S) (hk : kd < k) : ∃ row e, W.rules[st]? = some row ∧ row[kd]? = some e ∧ (W.rules.getD st []).getD kd none = e ∧ EntOk S B e := by
  have h1 : st < W.rules.length := by rw [h.r1]; exact hs
  have m1 := List.getElem_mem h1
  obtain ⟨r1, r2⟩ := h.r2 _ m1
  have h2 : kd < (W.rules[st]).length := by rw [r1]; exact hk
  refine ⟨W.rules[st], (W.rules[st])[kd], List.getElem?_eq_getElem h1, List.getElem?_eq_getElem h2, ?_, r2 _ (List.getElem_mem h2)⟩
  rw [List.getD_eq_getElem?_getD, List.getD_eq_getElem?_getD, List.getElem?_eq_getElem h1, Option.getD_some, List.getElem?_eq_getElem h2, Option.getD_some]
theorem step_ok {k S B n : Nat} {W : Wr} (h : WOk k S B W) {st kd : Nat} {ts : List Str} (hs : SOk S B n st ts) {t : Nat} {fs : List Rc} (he : EntOk S B (some (t, fs))) : SOk S B (n + 10 * B) t (fs.map (mk ts)) := by
  obtain ⟨h1, h2⟩ := he t fs rfl
  refine ⟨h1, by rw [List.length_map]; exact h2.len, ?_, fun z hz => ?_⟩
  · have a := tot_step h2 hs.len
    have b := hs.tot
    omega
  · obtain ⟨r, hr, rfl⟩ := List.mem_map.mp hz
    exact mk_low hs.low (h2.each r hr).low
theorem begin_ok {k S B : Nat} {W : Wr} (h : WOk k S B W) (hS : 1 ≤ S) : SOk S B (2 * B) 0 W.begins := by
  refine ⟨hS, h.b1, ?_, fun z hz => (h.b2 z hz).low⟩
  have e : ∀ l : List Str, (∀ z ∈ l, Tx 2 z) → tot l ≤ 2 * l.length := by
    intro l
    induction l with
    | nil => exact fun _ => Nat.zero_le _
    | cons z r ih =>
      intro hz
      have a := ih fun y hy => hz y (List.mem_cons_of_mem _ hy)
      have b := (hz z List.mem_cons_self).len
      unfold tot at a ⊢
      rw [List.map_cons, List.sum_cons, List.length_cons]
      omega
  have := e W.begins h.b2
  rw [h.b1] at this
  exact this
theorem stepW_none (W : Wr) (k : Nat) : stepW W none k = none := rfl
theorem fold_none (W : Wr) : ∀ l : List Nat, l.foldl (stepW W) none = none
  | [] => rfl
  | _ :: r => by rw [List.foldl_cons, stepW_none, fold_none W r]
/-- all situations on a word's way are in order -/
theorem run_ok {k S B : Nat} {W : Wr} (h : WOk k S B W) (hS : 1 ≤ S) {ns : List Nat} (hn : ∀ i ∈ ns, i < k) : ∀ st ts, runW W ns = some (st, ts) → SOk S B (2 * B + 10 * B * ns.length) st ts := by
  have main : ∀ (l : List Nat) (o : Option (Nat × List Str)) (n : Nat), (∀ i ∈ l, i < k) → (∀ st ts, o = some (st, ts) → SOk S B n st ts) → ∀ st ts, l.foldl (stepW W) o = some (st, ts) → SOk S B (n + 10 * B * l.length) st ts := by
    intro l
    induction l with
    | nil => exact fun o n _ ho st ts e => ho st ts e
    | cons a r ih =>
      intro o n hl ho st ts e
      rw [List.foldl_cons] at e
      have q := ih (stepW W o a) (n + 10 * B) (fun i hi => hl i (List.mem_cons_of_mem _ hi)) ?_ st ts e
      · refine ⟨q.st, q.len, Nat.le_trans q.tot ?_, q.low⟩
        rw [List.length_cons, Nat.mul_succ]
        omega
      · intro st' ts' e'
        cases o with
        | none => cases e'
        | some x =>
          obtain ⟨s0, t0⟩ := x
          have s1 := ho s0 t0 rfl
          obtain ⟨row, en, _, _, h3, h4⟩ := ent_at h s1.st (hl a List.mem_cons_self)
          have e2 : stepW W (some (s0, t0)) a = goE t0 en := congrArg (goE t0) h3
          rw [e2] at e'
          cases en with
          | none => cases e'
          | some y =>
            obtain ⟨t, fs⟩ := y
            cases e'
            exact step_ok (kd := a) h s1 h4
  intro st ts e
  exact main ns _ (2 * B) hn (fun st ts e => by cases e; exact begin_ok h hS) st ts e
theorem run_more (W : Wr) {ns : List Nat} {i x : Nat} (h : ns[i]? = some x) : runW W (ns.take (i + 1)) = stepW W (runW W (ns.take i)) x := foldl_more (stepW W) _ h


/-! ### words as data -/
def wordD (ns : List Nat) : PyData := .tuple ((iN ns).map .int)
theorem tp_word {H : Hp} {t : Addr} {ns : List Nat} (h : H t = some (.tup ((iN ns).map V.int))) : Tp H (.ref t) (wordD ns) := .tup h (TpAll.map fun z _ => .int z)
theorem Tp.word_inv {H : Hp} {v : V} {ns : List Nat} (h : Tp H v (wordD ns)) : ∃ a, v = .ref a ∧ H a = some (.tup ((iN ns).map V.int)) := by
  obtain ⟨a, xs, rfl, h1, h2⟩ := h.tup_inv
  rw [tpAll_ints h2] at h1
  exact ⟨a, rfl, h1⟩

/-! ### () * k is () itself -/
section
open PySem.Spec PyProof.Rows
theorem mul_of_empty (l : Addr) (n : Nat) (dd : Option Addr) (sl : Array (Option Value)) (x : Int) (u : Tok) (small : (decide (x < -(2 ^ 63)) || decide (x ≥ 2 ^ 63)) = false) :
    Meets (Builtin.«tuple.__mul__» ⟨[.ref l, .int x u], []⟩) (fun _ R s => s.heap.get? l = some { cls := .type "tuple", dict := dd, data := .seq #[] n, slots := sl } ∧ R (.ok (.ret (Value.ref l))) s) :=
  .of_wp fun _ _ _ _ s h => by
    obtain ⟨heap, gs, dr, tk, os⟩ := s
    obtain ⟨look, fin⟩ := h
    have f1 := AutoSeq1.idx_int
    (wp_walk using wpAny_loadPart' look)
    repeat (first
      | (refine wpAny_ite_false (decide_eq_false (by rw [small]; exact Bool.false_ne_true)) ?_; (wp_walk using wpAny_loadPart' look))
      | (refine wpAny_ite_true (decide_eq_true rfl) ?_; (wp_walk using wpAny_loadPart' look)))
    exact ⟨_, rfl, fin⟩
def rRep0 (K : PySem.W.Frag) : R2 := fun x y H Q => ∃ (l : Addr) (k : Int), x = .ref l ∧ y = .int k ∧ SqT K H l [] ∧ 2 ≤ k ∧ k ≤ 1000 ∧ Q (.ref l) H
theorem op_rep0 {X : Cx} : OpR X (binaryOp .Mult) (rRep0 X.K) := by
  intro pins s σ H x y v u Q I rx ry given
  obtain ⟨l, k, rfl, rfl, hT, h1, h2, q⟩ := given
  cases rx
  obtain ⟨t, rfl⟩ := ry
  obtain ⟨_, r, ⟨⟨cl, dd, da, sl⟩, ho, hc, n, hd⟩, _⟩ := I.tuple hT
  cases r
  simp only at hc hd
  subst hc hd
  have small : (decide (k < -(2 ^ 63)) || decide (k ≥ 2 ^ 63)) = false := by
    rw [decide_eq_false (by omega), decide_eq_false (by omega), Bool.or_false]
  exact wpAny_binaryOp_repeat_ref (T := "tuple") (U := "int") (by decide) ⟨_, ho, rfl⟩ (fun s' => typeIs_int s' k t) noFill_tuple_mul F.fills_int_mul F.slot_int_rmul repeat_tuple F.slot_int_index.lookup
    (call_meets F.slot_int_rmul (typeIs_int s k t) F.entry_int_rmul (F.args_int_rmul_2 _ _) (int_rmul_tuple k t l #[] n dd sl)
      ⟨ho, rfl, ⟨_, ho, rfl⟩, call_meets F.slot_tuple_mul ⟨_, ho, rfl⟩ F.entry_tuple_mul (F.args_tuple_mul_2 _ _) (mul_of_empty l n dd sl k t small) ⟨ho, .ref l, H, I, rfl, q⟩⟩)
end
theorem rep_words (n : Nat) (ns : List Nat) : (List.replicate n ((iN ns).map V.int)).flatten = (iN (List.replicate n ns).flatten).map V.int := by
  induction n with
  | zero => rfl
  | succ n ih =>
    rw [List.replicate_succ, List.flatten_cons, ih, List.replicate_succ, List.flatten_cons]
    unfold iN
    rw [List.map_append, List.map_append]

/-! ### writers, situations, texts may be shown -/
theorem part_len {z : Str} : ∀ {r : Rc}, .s z ∈ r → z.length ≤ lets r
  | q :: r, h => by
    have e : lets (q :: r) = q.let + lets r := by
      unfold lets
      rw [List.map_cons, List.sum_cons]
    rw [e]
    rcases List.mem_cons.mp h with rfl | h
    · exact Nat.le_add_right _ _
    · have := part_len h
      omega
theorem flat_lt {fs : List Rc} {r : Rc} {n : Nat} (h : ∀ i ∈ fs.flatMap bufs, i < n) (hr : r ∈ fs) : ∀ i ∈ bufs r, i < n := fun i hi => h i (List.mem_flatMap.mpr ⟨r, hr, hi⟩)
theorem neat_rc {r : Rc} {n : Nat} (h : ROk r) (hb : ∀ i ∈ bufs r, i < n) (hn : n ≤ 1000) : Neat 1 205 r.d := by
  have e : NeatAll 0 (r.length * (40 + 1)) (r.map Pt.d) := neatAll_map fun q hq => by
    cases q with
    | s z =>
      have a := part_len hq
      have b := h.lt
      exact (neat_str (low_strOk (h.low _ hq))).le (Nat.le_refl _) (by omega)
    | b i =>
      have := hb i (List.mem_flatMap.mpr ⟨_, hq, List.mem_singleton.mpr rfl⟩)
      exact neat_int (by omega)
  have l := h.len
  exact (e.tup).le (Nat.le_refl _) (by omega)
theorem neat_rcE {r : Rc} {n : Nat} (h : ROkE r) (hb : ∀ i ∈ bufs r, i < n) (hn : n ≤ 1000) : Neat 1 246 r.d := by
  have e : NeatAll 0 (r.length * (40 + 1)) (r.map Pt.d) := neatAll_map fun q hq => by
    cases q with
    | s z =>
      have a := part_len hq
      have b := h.lt
      exact (neat_str (low_strOk (h.low _ hq))).le (Nat.le_refl _) (by omega)
    | b i =>
      have := hb i (List.mem_flatMap.mpr ⟨_, hq, List.mem_singleton.mpr rfl⟩)
      exact neat_int (by omega)
  have l := h.len
  exact (e.tup).le (Nat.le_refl _) (by omega)
theorem neat_ent {S B : Nat} {e : Option (Nat × List Rc)} (h : EntOk S B e) (hS : S ≤ 12) (hB : B ≤ 3) : Neat 3 700 (entD e) := by
  cases e with
  | none => exact neat_none.le (by decide) (by decide)
  | some x =>
    obtain ⟨t, fs⟩ := x
    obtain ⟨h1, h2⟩ := h t fs rfl
    have a : NeatAll 1 (fs.length * (205 + 1)) (fs.map Rc.d) := neatAll_map fun r hr => neat_rc (h2.each r hr) (flat_lt h2.lt hr) (by omega)
    have b : NeatAll 2 _ [.int (t : Int), fillsD fs] := NeatAll.cons ((neat_int (i := (t : Int)) (by omega)).le (by decide) (Nat.le_refl _)) (NeatAll.cons a.tup neatAll_nil)
    have l := h2.len
    exact b.tup.le (Nat.le_refl _) (by omega)
theorem neat_W {k S B : Nat} {W : Wr} (h : WOk k S B W) (hk : k ≤ 4) (hS : S ≤ 12) (hB : B ≤ 3) : Neat 6 40000 W.d := by
  have a : NeatAll 0 (W.begins.length * (2 + 1)) (W.begins.map .str) := neatAll_map fun z hz => (neat_str (low_strOk (h.b2 z hz).low)).le (Nat.le_refl _) (h.b2 z hz).len
  have b : NeatAll 4 (W.rules.length * (2804 + 1)) (W.rules.map rowD) := neatAll_map fun row hrow => by
    obtain ⟨r1, r2⟩ := h.r2 row hrow
    have c : NeatAll 3 (row.length * (700 + 1)) (row.map entD) := neatAll_map fun e he => neat_ent (r2 e he) hS hB
    exact c.tup.le (Nat.le_refl _) (by omega)
  have c : NeatAll 1 (W.ends.length * (246 + 1)) (W.ends.map endD) := neatAll_map fun e he => by
    cases e with
    | none => exact neat_none.le (by decide) (by decide)
    | some r =>
      have q := h.e2 _ he r rfl
      exact neat_rcE q.ok q.lt (by omega)
  have all : NeatAll 5 _ [.tuple (W.begins.map .str), .tuple (W.rules.map rowD), .tuple (W.ends.map endD)] :=
    NeatAll.cons (a.tup.le (by decide) (Nat.le_refl _)) (NeatAll.cons (b.tup.le (by decide) (Nat.le_refl _)) (NeatAll.cons (c.tup.le (by decide) (Nat.le_refl _)) neatAll_nil))
  have l1 := h.b1
  have l2 := h.r1
  have l3 := h.e1
  exact all.tup.le (Nat.le_refl _) (by omega)

/-! ### slices and sums of tuples as data; texts times a number; what may be a list or a tuple -/
theorem cut_take (xs : List V) (k : Nat) (h : k ≤ xs.length) : cutV xs none (some (k : Int)) = xs.take k := by
  unfold cutV
  rw [HT.sIx_none, HT.sIx_nat, List.drop_zero, Nat.sub_zero, Nat.min_eq_left h]
theorem cut_drop (xs : List V) (k : Nat) (h : k ≤ xs.length) : cutV xs (some (k : Int)) none = xs.drop k := by
  unfold cutV
  rw [HT.sIx_none, HT.sIx_nat, Nat.min_eq_left h]
  exact List.take_of_length_le (by rw [List.length_drop]; exact Nat.le_refl _)
theorem TpAll.take {H : Hp} : ∀ {vs : List V} {ds : List PyData} (k : Nat), TpAll H vs ds → TpAll H (vs.take k) (ds.take k)
  | _, _, 0, _ => .nil
  | _, _, _ + 1, .nil => .nil
  | _, _, k + 1, .cons h hs => .cons h (TpAll.take k hs)
theorem TpAll.drop {H : Hp} : ∀ {vs : List V} {ds : List PyData} (k : Nat), TpAll H vs ds → TpAll H (vs.drop k) (ds.drop k)
  | _, _, 0, h => h
  | _, _, _ + 1, .nil => .nil
  | _, _, k + 1, .cons _ hs => TpAll.drop k hs
/-- t[:k] -/
theorem sl_take {K : PySem.W.Frag} {H : Hp} {x : V} {ds : List PyData} {k : Nat} {Q : VK} (hx : Tp H x (.tuple ds)) (hk : k ≤ ds.length) (h : ∀ (v : V) H', Same H H' → Tp H' v (.tuple (ds.take k)) → Q v H') : rSlA K x none (some (k : Int)) H Q := by
  obtain ⟨a, xs, rfl, h1, h2⟩ := hx.tup_inv
  have hk' : k ≤ xs.length := by rw [h2.len]; exact hk
  refine ⟨a, xs, rfl, SqT.of h1, fun ⟨_, e⟩ => ?_, fun _ p hp => ?_⟩
  · rw [HT.sIx_nat, Nat.min_eq_left hk'] at e
    refine h _ _ (Same.refl H) (.tup h1 ?_)
    rw [List.take_of_length_le (by rw [← h2.len, e]; exact Nat.le_refl _)]
    exact h2
  · refine h _ _ (same_new hp) (.tup upd_same ?_)
    rw [cut_take xs k hk']
    exact (h2.take k).mono (tk_new hp)
/-- t[k:] -/
theorem sl_drop {K : PySem.W.Frag} {H : Hp} {x : V} {ds : List PyData} {k : Nat} {Q : VK} (hx : Tp H x (.tuple ds)) (hk : k ≤ ds.length) (h : ∀ (v : V) H', Same H H' → Tp H' v (.tuple (ds.drop k)) → Q v H') : rSlA K x (some (k : Int)) none H Q := by
  obtain ⟨a, xs, rfl, h1, h2⟩ := hx.tup_inv
  have hk' : k ≤ xs.length := by rw [h2.len]; exact hk
  refine ⟨a, xs, rfl, SqT.of h1, fun ⟨e, _⟩ => ?_, fun _ p hp => ?_⟩
  · rw [HT.sIx_nat, Nat.min_eq_left hk'] at e
    refine h _ _ (Same.refl H) (.tup h1 ?_)
    rw [e, List.drop_zero]
    exact h2
  · refine h _ _ (same_new hp) (.tup upd_same ?_)
    rw [cut_drop xs k hk']
    exact (h2.drop k).mono (tk_new hp)
/-- t + u -/
theorem cat_tp {K : PySem.W.Frag} {H : Hp} {x y : V} {ds es : List PyData} {Q : VK} (hx : Tp H x (.tuple ds)) (hy : Tp H y (.tuple es)) (n1 : ds.length ≤ 10000) (n2 : es.length ≤ 10000) (h : ∀ (v : V) H', Same H H' → Tp H' v (.tuple (ds ++ es)) → Q v H') : rCatA K x y H Q := by
  obtain ⟨a, xs, rfl, h1, h2⟩ := hx.tup_inv
  obtain ⟨b, ys, rfl, g1, g2⟩ := hy.tup_inv
  have e1 := h2.len
  have e2 := g2.len
  refine ⟨a, b, xs, ys, rfl, rfl, SqT.of h1, SqT.of g1, Nat.le_trans (show xs.length + ys.length ≤ 20000 by omega) (by decide), fun z => ?_, fun _ z => ?_, fun _ _ p hp => ?_⟩
  · subst z
    cases h2
    exact h _ _ (Same.refl H) (.tup g1 g2)
  · subst z
    cases g2
    refine h _ _ (Same.refl H) (.tup h1 ?_)
    rw [List.append_nil]
    exact h2
  · exact h _ _ (same_new hp) (.tup upd_same ((h2.app g2).mono (tk_new hp)))
theorem sl_tupAK {X : Cx} (K : PySem.W.Frag) (h : X.K = K := by rfl) : SlR X (rSlA K) := by
  rw [← h]
  exact sl_tupA
/-- one sign, so often -/
def rowOf (c : Nat) (n : Nat) : Str := ⟨(List.replicate n c).toArray⟩
theorem rowOf_len (c n : Nat) : (rowOf c n).length = n := by
  show (List.replicate n c).toArray.size = n
  rw [List.size_toArray, List.length_replicate]
theorem rowOf_low {c n : Nat} (h : 97 ≤ c ∧ c ≤ 122) : ∀ z ∈ (rowOf c n).cps.toList, 97 ≤ z ∧ z ≤ 122 := by
  intro z hz
  have hz' : z ∈ List.replicate n c := hz
  rw [List.eq_of_mem_replicate hz']
  exact h
theorem rep_sign (c : Nat) : ∀ (n : Nat) (acc : Array Nat), (List.replicate n #[c]).foldl (· ++ ·) acc = acc ++ (List.replicate n c).toArray
  | 0, acc => by
    show acc = acc ++ #[]
    rw [Array.append_empty]
  | n + 1, acc => by
    rw [List.replicate_succ, List.foldl_cons, rep_sign c n]
    refine Array.toList_inj.mp ?_
    rw [Array.toList_append, Array.toList_append, Array.toList_append, List.replicate_succ, List.append_assoc]
    rfl
def rMulS : R2 := fun x y H Q => ∃ (c : Nat) (n : Nat), x = .str ⟨#[c]⟩ ∧ y = .int n ∧ 2 ≤ n ∧ n ≤ 100000 ∧ Q (.str (rowOf c n)) H
section
open PySem.Spec PyProof.Rows
theorem op_mulS {X : Cx} : OpR X (binaryOp .Mult) rMulS := by
  intro pins s σ H x y v u Q I rx ry given
  obtain ⟨c, n, rfl, rfl, n2, big, q⟩ := given
  obtain ⟨t, rfl⟩ := rx
  obtain ⟨t2, rfl⟩ := ry
  have one : ((⟨#[c]⟩ : Str).length) = 1 := rfl
  refine PySem.P.mul_str ?_ (fun _ _ => ?_) (fun _ _ => ?_) ?_
  · rw [decide_eq_false (by omega), decide_eq_false (by omega)]
    rfl
  · rw [one]
    have h1 : (1 : Int) ≤ (2 ^ 63 - 1) / (n : Int) := (Int.le_ediv_iff_mul_le (by omega)).mpr (by omega)
    exact Int.not_lt.mpr h1
  · rw [one, Nat.one_mul, Int.toNat_natCast]
    unfold Builtin.Str.tooLong
    exact decide_eq_false (Nat.not_lt.mpr (Nat.le_trans big (by decide)))
  · have e1 : ¬ (n : Int) < 1 := by omega
    have e2 : ((n : Int) == 1 || (⟨#[c]⟩ : Str).length == 0) = false := by
      rw [one, Bool.or_eq_false_iff]
      exact ⟨beq_eq_false_iff_ne.mpr (by omega), rfl⟩
    rw [if_neg e1, if_neg (by rw [e2]; exact Bool.false_ne_true), Int.toNat_natCast]
    have e3 : (⟨(List.replicate n (⟨#[c]⟩ : Str).cps).foldl (· ++ ·) #[]⟩ : Str) = rowOf c n := by
      refine Str.ext' ?_
      show (List.replicate n #[c]).foldl (· ++ ·) #[] = (List.replicate n c).toArray
      rw [rep_sign, Array.empty_append]
    rw [e3]
    refine ⟨?_, .str _, H, I.tok _, ⟨_, rfl⟩, q⟩
    rw [rowOf_len]
    exact Nat.le_trans big (by decide)
/-- a walk over what is a list or a tuple -/
theorem pi_any {X : Cx} {tg l : Expr} {tl : TE} (h : PE X l tl) : PI X tg l (fun σ H R => iList X.K tl σ H R ∨ iTup X.K tl σ H R) :=
  ⟨fun pins s σ H R I q => q.elim (fun z => (pi_list (tg := tg) h).run pins s σ H R I z) (fun z => (pi_tup (tg := tg) h).run pins s σ H R I z)⟩
end
/-- a walk over a tuple, whatever is done with the items -/
theorem walk_tup {K : PySem.W.Frag} {a : Addr} {xs : List V} {body : V → Hp → (Hp → Prop) → Prop} {H0 : Hp} {Qd : Hp → Prop} (Pv : Nat → Hp → Prop) (h0 : Pv 0 H0) (hl : ∀ i H, i ≤ xs.length → Pv i H → SqT K H a xs)
    (hs : ∀ i x H, xs[i]? = some x → Pv i H → body x H (Pv (i + 1))) (hd : ∀ H, Pv xs.length H → Qd H) :
    ∃ W : Nat → Nat → Hp → Prop, (∃ m, W 0 m H0) ∧ ∀ i m H, W i m H → ((Itt K a).stop i H ∧ Qd H) ∨ ((Itt K a).go i H ∧ ∃ Nx : Hp → Prop, (∀ H', Nx H' → ∃ m', m' < m ∧ W (i + 1) m' H') ∧ ∀ x H', (Itt K a).yld i H x H' → body x H' Nx) := by
  refine ⟨fun i m H => m = xs.length - i ∧ i ≤ xs.length ∧ Pv i H, ⟨xs.length, rfl, Nat.zero_le _, h0⟩, fun i m H ⟨em, hi, p⟩ => ?_⟩
  have at_a := hl i H hi p
  rcases Nat.lt_or_eq_of_le hi with lt | eq
  · refine .inr ⟨⟨xs, xs[i], at_a, List.getElem?_eq_getElem lt⟩, Pv (i + 1), fun H' p' => ⟨xs.length - (i + 1), by omega, rfl, lt, p'⟩, fun x H' y => ?_⟩
    obtain ⟨e, y⟩ := y
    rw [e]
    exact hs i x H (y xs at_a) p
  · refine .inl ⟨⟨xs, at_a, Nat.le_of_eq eq.symm⟩, hd H ?_⟩
    rw [← eq]
    exact p

theorem pg_tupK {X : Cx} (K : PySem.W.Frag) {es : List Expr} {k : Nat} {t : TGs} {n : Nat} {pos : Pos} (hc : X.calm = true) (h : PGs X es t) (e : X.K = K := by rfl)
    (hn : (assignEach es X.env).length = n := by rfl) (hst : (assignEach es X.env).findIdx? (·.1) = none := by rfl) : PG X (.Tuple es k pos) (gTup K n t) := by
  rw [← e]
  exact pg_tup hc h hn hst

/-! ### enumerate over a tuple -/
namespace ET
open PySem PySem.Spec PyProof.Rows L2
open PySem.Sem (wp)
theorem draws_tuple {prog : Program} {w : World} {A : Around} (hh : A.handled = none) (it l : Addr) (hne : l ≠ it) (items : Array Value) :
    Draws prog w A it [it, l] items.size (fun i v => items[i]? = some v) (fun i h => h.IsTupleIter it l i ∧ h.IsTuple l items) where
  live := fun _ _ st => let ⟨o, ho, _⟩ := st.1; ⟨o, ho⟩
  frame := fun _ _ _ st hk => ⟨st.1.at fun o e => hk it (by simp) o e, let ⟨o, ho, r⟩ := st.2; ⟨o, hk l (by simp) o ho, r⟩⟩
  item := fun i s Q E hi st hQ => by
    refine RZ.nextOf_tuple_item st.1 st.2 (x := items[i]) (by simp [hi]) fun h' hit' hs' => ?_
    exact hQ _ h' s.toks (by simp [hi]) ⟨hit', st.2.extBut hs'.extBut hne⟩ hs'
  done := fun s Q E st hE => RZ.nextOf_tuple_end hh st.1 st.2 (by simp) hE
theorem meets_new (l : Addr) (items : Array Value) :
    Meets (Builtin.«enumerate.__new__» ⟨[.type "enumerate", .ref l], []⟩) (fun _ R s => s.heap.IsTuple l items ∧
      R (.ok (.ret (.ref (s.heap.push { cls := .type "tuple_iterator", data := .fields #[.ref l, .int 0 0] }).objs.size)))
        { s with heap := (s.heap.push { cls := .type "tuple_iterator", data := .fields #[.ref l, .int 0 0] }).push { cls := .type "enumerate", data := .fields #[.none, .bool false, .ref s.heap.objs.size, rawInt 0, .none, .none] } }) :=
  .of_wp fun prog w A R s h => by
    obtain ⟨hp, g, d, tk, os⟩ := s; obtain ⟨hl, h⟩ := h
    have hsub := sub_enumerate
    have hL : Heap.IsTuple (Shared.heap ⟨hp, g, d, tk, os⟩) l items := hl
    wp_walk using wpAny_pyIter_tuple hL
    refine wpAny_stack_any fun st => wpAny_pure ?_
    split
    · rename_i c _ _ _ _ _
      cases (c == Value.type "enumerate")
      · wp_walk using wpAny_pyIter_tuple hL
        exact ⟨_, rfl, h⟩
      · wp_walk using wpAny_pyIter_tuple hL
        exact ⟨_, rfl, h⟩
    · wp_walk using wpAny_pyIter_tuple hL
      exact ⟨_, rfl, h⟩
theorem call_enumT {prog : Program} {w : World} {A : Around} {E : Value → Shared → Prop} {s : Shared} {l : Addr} {items : Array Value} {Q : Value → Shared → Prop} (hL : s.heap.IsTuple l items)
    (h : ∀ h', IsEnum h' (s.heap.objs.size + 1) s.heap.objs.size 0 .none → h'.IsTupleIter s.heap.objs.size l 0 → h'.objs.size = s.heap.objs.size + 2 →
      (∀ b o, s.heap.get? b = some o → h'.get? b = some o) → Q (.ref (s.heap.objs.size + 1)) { s with heap := h' }) :
    wpAny (model prog w) A (call (.type "enumerate") [.ref l]) Q E s := by
  refine callType_new F.called_enumerate (by decide) (F.typeCall_enumerate_1 _) (F.newCall_enumerate_1 _) (fun obj => F.args_object_init_2 obj _) F.entry_enumerate_new
    (meets_new l items) ⟨hL, ?_⟩
  have hz : (s.heap.push { cls := .type "tuple_iterator", data := .fields #[.ref l, .int 0 0] }).objs.size = s.heap.objs.size + 1 := Heap.size_push ..
  show _ ∧ _
  rw [hz]
  have he : IsEnum ((s.heap.push { cls := .type "tuple_iterator", data := .fields #[.ref l, .int 0 0] }).push
      { cls := .type "enumerate", data := .fields #[.none, .bool false, .ref s.heap.objs.size, rawInt 0, .none, .none] }) (s.heap.objs.size + 1) s.heap.objs.size 0 .none := by
    have := Heap.get?_push_size (s.heap.push { cls := .type "tuple_iterator", data := .fields #[.ref l, .int 0 0] })
      (o := { cls := .type "enumerate", data := .fields #[.none, .bool false, .ref s.heap.objs.size, rawInt 0, .none, .none] }) rfl
    rw [hz] at this; exact this
  refine ⟨⟨_, he, rfl⟩, h _ he ⟨_, Heap.get?_push_of_some _ (Heap.get?_push_size _ rfl), rfl, rfl⟩ (by rw [Heap.size_push, hz]) fun b o x => Heap.get?_push_of_some _ (Heap.get?_push_of_some _ x)⟩
theorem wpAny_pyNext_enum_endX {prog : Program} {w : World} {A : Around} {E : Value → Shared → Prop} {s : Shared} {e it l : Addr} {i : Nat} {items : Array Value} {c : Int} {old : Value} {Q : Option Value → Shared → Prop} (hh : A.in1.handled = none)
    (he : IsEnum s.heap e it c old) (hit : s.heap.IsTupleIter it l i) (hl : s.heap.IsTuple l items) (hx : items[i]? = none)
    (hQ : ∀ h', Heap.ExtBut it s.heap h' → Q none { s with heap := h' }) : wpAny (model prog w) A (pyNext (.ref e)) Q E s := by
  have hT : s.TypeIs (.ref e) "enumerate" := ⟨_, he, rfl⟩
  unfold pyNext
  refine wpAny_bind (wpAny_attempt (wpAny_callSpecial?_slot (name := Str.ofString "__next__") hT F.slot_enumerate_next
    (wpAny_call_entry F.slot_enumerate_next hT F.entry_enumerate_next ?_ (F.args_enumerate_next_1 _))))
  show wpAny _ _ (field (.ref e) 2 >>= _) _ _ _
  refine wpAny_bind (wpAny_field he rfl (x := .ref it) rfl ?_)
  refine wpAny_bind (RZ.nextOf_tuple_end hh hit hl hx fun h' x he' hx' => ?_)
  obtain ⟨o, ho, hc⟩ := hx'
  refine wpAny_bind (wpAny_isInstance (T := "StopIteration") (b := true) ⟨o, ho, hc⟩ isSubtype_stop ?_)
  exact wpAny_pure (hQ _ he')
def IteT (K : PySem.W.Frag) (a : Addr) : It :=
  ⟨fun i H => ∃ (xs : List V) (x : V), SqT K H a xs ∧ xs[i]? = some x, fun i H v H' => ∃ T x, v = .ref T ∧ H T = none ∧ H' = upd H T (.tup [.int (i : Nat), x]) ∧ ∀ xs, SqT K H a xs → xs[i]? = some x, fun i H => ∃ xs : List V, SqT K H a xs ∧ xs.length ≤ i⟩
theorem turn_enumT {P : Program} {w : World} {K : PySem.W.Frag} {elts : List Expr} {kk : Nat} {tpos : Pos} (a e it : Addr) :
    Turn P w K (.Tuple elts kk tpos) (IteT K a) [e, it] e (fun i h => (∃ old, IsEnum h e it ((i : Nat) : Int) old) ∧ h.IsTupleIter it a i ∧ e ≠ it ∧ e ≠ a ∧ a ≠ it) where
  mem := by simp
  obj := fun i h st b hb => by
    obtain ⟨⟨old, he⟩, ⟨o, ho, hc, hd⟩, _⟩ := st
    have e' : b = e ∨ b = it := by simpa using hb
    rcases e' with z | z
    · rw [z]; exact ⟨_, he, fun v q => nomatch q⟩
    · rw [z]; exact ⟨o, ho, fun v q => by rw [hd] at q; cases q⟩
  keep := fun i h h' st k => let ⟨⟨old, he⟩, hi, hne⟩ := st; ⟨⟨old, k e (by simp) _ he⟩, hi.at fun o q => k it (by simp) o q, hne⟩
  item := by
    intro X hP hw hK hc i pins s σ H E I hf st hg
    subst hP hw hK
    obtain ⟨⟨old, he⟩, hit, hne, hea, hai⟩ := st
    obtain ⟨xs, x, hq, hx⟩ := hg
    obtain ⟨its, rv, p, _⟩ := I.tuple hq
    obtain ⟨u, hu, ru⟩ := rv.get hx
    have hel : e < s.heap.objs.size := Heap.lt_size he
    have hil : it < s.heap.objs.size := by obtain ⟨_, q, _⟩ := hit; exact Heap.lt_size q
    have ilt : i < its.toArray.size := by
      rw [List.size_toArray]
      exact (List.getElem?_eq_some_iff.mp hu).1
    have hh : X.A.in1.handled = none := show X.A.handled = none from I.ok.hd hc
    refine wpAny_pyNext_enum_itemD (draws_tuple hh it a hai its.toArray) he ⟨hit, p⟩ ilt hne (by simp [hne, hea]) fun x' h' tk hP ho hs' hT hsz hk => ?_
    obtain rfl : u = x' := by
      have q : its.toArray[i]? = some u := by simpa using hu
      rw [q] at hP
      exact Option.some.inj hP
    refine ⟨_, rfl, wpAny_letOwnedTupleGo_enum (s := { s with heap := h', toks := tk + 1 }) ho fun h'' he' sb => ?_⟩
    have hT2 : h''.get? s.heap.objs.size = some { cls := .type "tuple", data := .seq #[.int i tk, u] } := (sb.2 _ (Nat.ne_of_gt hel)).trans hT
    have new : ObjOk X.prog X.w (upd H s.heap.objs.size (.tup [.int (i : Nat), x])) h'' s.heap.objs.size (.tup [.int (i : Nat), x]) :=
      ⟨by show 2 ≤ sizeLine; decide, [.int i tk, u], .cons ⟨_, rfl⟩ (.cons ru .nil), ⟨_, hT2, rfl, _, rfl⟩⟩
    have I1 : Inv X pins σ (upd H s.heap.objs.size (.tup [.int (i : Nat), x])) { s with heap := h'', toks := tk + 1 } :=
      I.turnedNew (ch := [e, it]) (fun b ob hb q => (sb.2 b (fun z => hb (by simp [z]))).trans (hk b ob (fun z => hb (by simp [z])) (fun z => hb (by simp [z])) q)) hf (Nat.le_refl _) new
    refine ⟨.ref s.heap.objs.size, _, I1, rfl, ⟨_, x, rfl, I.hok.fresh (Nat.le_refl _), rfl, fun ys hy => by rw [I.tuple_inj hy hq]; exact hx⟩, ⟨⟨u, ?_⟩, hs'.1.at fun o q => (sb.2 it (Ne.symm hne)).trans q, hne, hea, hai⟩, fun b hb => ?_⟩
    · have e1 : ((i + 1 : Nat) : Int) = (i : Int) + 1 := by omega
      rw [e1]; exact he'
    · have hb' : b < s.heap.objs.size := by
        have e' : b = e ∨ b = it := by simpa using hb
        rcases e' with z | z
        · rw [z]; exact hel
        · rw [z]; exact hil
      rw [upd_ne (Nat.ne_of_lt hb')]
      exact (hf b hb).1
  done := by
    intro X hP hw hK hc i pins s σ H E I hf st hg
    subst hP hw hK
    obtain ⟨⟨old, he⟩, hit, hne, hea, hai⟩ := st
    obtain ⟨xs, hq, hx⟩ := hg
    obtain ⟨its, rv, p, _⟩ := I.tuple hq
    obtain ⟨f0, f1, f2, f3, f4, f5⟩ := hf it (by simp)
    have hl := rv.length
    have hh : X.A.in1.handled = none := show X.A.handled = none from I.ok.hd hc
    refine wpAny_pyNext_enum_endX hh he hit p (by simp; omega) fun h' eb => ⟨rfl, I.turned (t' := s.toks) (fun b o hb q => eb b o hb q) f0 f1 f3 f4 f5⟩
  self := fun A i s Q E st h => let ⟨⟨_, he⟩, _⟩ := st; wpAny_pyIter_enum he h
def iEnumT (K : PySem.W.Frag) (ta : TA) : TI := fun σ H R => ta σ H fun vs H1 => ∃ a xs, vs = [.ref a] ∧ SqT K H1 a xs ∧ R (IteT K a) H1
theorem pi_enumT {X : Cx} {e : Expr} {ta : TA} {p pos tpos : Pos} {elts : List Expr} {kk : Nat} (hg : Gl X "enumerate") (hm : X.mg "enumerate" = none) (ha : PA X [e] ta) (hs : starEach [e] X.env = [(false, eval e X.env)] := by rfl) :
    PI X (.Tuple elts kk tpos) (.Call (.Name "enumerate" p) [e] [] pos) (iEnumT X.K ta) := by
  refine ⟨fun pins s σ H R I h => ?_⟩
  refine Call_ (ld_blt I hg hm boot_enumerate (PyProof.Rows.callWith_type1 (thn (ha.run pos pins s σ H _ I h) fun us s1 ⟨vs, H1, I1, r1, q1⟩ => ?_) hs rfl))
  obtain ⟨a, xs, ex, hq, q⟩ := q1
  subst ex
  cases r1 with
  | cons r rr =>
    cases rr
    cases r
    obtain ⟨its, rv, p', hz⟩ := I1.tuple hq
    have al : a < s1.heap.objs.size := by obtain ⟨_, y, _⟩ := id p'; exact Heap.lt_size y
    refine call_enumT p' fun h' he hit hsz hk => wpAny_pyIter_enum he ?_
    have I2 : Inv X pins σ H1 { s1 with heap := h' } := I1.kept (t' := s1.toks) hk
    refine ⟨s1.heap.objs.size + 1, [s1.heap.objs.size + 1, s1.heap.objs.size], _, _, H1, rfl, I2, turn_enumT a (s1.heap.objs.size + 1) s1.heap.objs.size, ⟨⟨.none, he⟩, hit, Nat.succ_ne_self _, Nat.ne_of_gt (Nat.lt_succ_of_lt al), Nat.ne_of_lt al⟩, fun b hb => ?_, q⟩
    have e' : b = s1.heap.objs.size + 1 ∨ b = s1.heap.objs.size := by simpa using hb
    have hle : s1.heap.objs.size ≤ b := by
      rcases e' with z | z
      · rw [z]; exact Nat.le_add_right _ _
      · rw [z]; exact Nat.le_refl _
    exact I1.fpOk hle (I1.hok.fresh hle)
end ET

/-! ### walks over tuples -/
theorem TpAll.snoc {H : Hp} : ∀ {vs : List V} {ds : List PyData} {v : V} {d : PyData}, TpAll H vs ds → Tp H v d → TpAll H (vs ++ [v]) (ds ++ [d])
  | _, _, _, _, h, hx => h.app (.cons hx .nil)
theorem TpAll.revl {H : Hp} : ∀ {vs : List V} {ds : List PyData}, TpAll H vs ds → TpAll H vs.reverse ds.reverse
  | _, _, .nil => .nil
  | _, _, .cons h hs => by
    rw [List.reverse_cons, List.reverse_cons]
    exact (TpAll.revl hs).app (.cons h .nil)
/-! ### a comprehension's rules with the written part told -/
theorem op_inK {X : Cx} (K : PySem.W.Frag) (h : X.K = K := by rfl) : OpR X (compareOp .In) (rIn K false) := by
  rw [← h]
  exact op_in_seq
theorem pi_tupK {X : Cx} (K : PySem.W.Frag) {tg l : Expr} {tl : TE} (hl : PE X l tl) (h : X.K = K := by rfl) : PI X tg l (iTup K tl) := by
  rw [← h]
  exact pi_tup hl
theorem for_enumT {K : PySem.W.Frag} {a : Addr} {xs : List V} {g : TG} {tb : TS} {D : Ends} {σ : L2.St} {H : Hp} (Pv : Nat → L2.St → Hp → Prop) (h0 : Pv 0 σ H) (hq : ∀ i σ H, Pv i σ H → SqT K H a xs)
    (hs : ∀ (i : Nat) (x : V) (T : Addr) (σ : L2.St) (H : Hp), xs[i]? = some x → Pv i σ H → H T = none → g (.ref T) σ (upd H T (.tup [.int (i : Nat), x])) fun σ2 H2 => tb { D with nx := Pv (i + 1), ct := Pv (i + 1), bk := D.nx } σ2 H2) (hd : ∀ σ H, Pv xs.length σ H → D.nx σ H) :
    ∃ W : Nat → Nat → L2.St → Hp → Prop, (∃ m, W 0 m σ H) ∧ ∀ i m σ H, W i m σ H →
      ((ET.IteT K a).stop i H ∧ D.nx σ H) ∨ ((ET.IteT K a).go i H ∧ ∃ N : L2.St → Hp → Prop, (∀ σ' H', N σ' H' → ∃ m', m' < m ∧ W (i + 1) m' σ' H') ∧ ∀ v H', (ET.IteT K a).yld i H v H' → g v σ H' fun σ2 H2 => tb { D with nx := N, ct := N, bk := D.nx } σ2 H2) := by
  refine ⟨fun i m σ H => m = xs.length - i ∧ i ≤ xs.length ∧ Pv i σ H, ⟨xs.length, rfl, Nat.zero_le _, h0⟩, ?_⟩
  rintro i m σ H ⟨em, le, p⟩
  have at_a := hq i σ H p
  rcases Nat.lt_or_eq_of_le le with lt | eq
  · refine .inr ⟨⟨xs, xs[i], at_a, List.getElem?_eq_getElem lt⟩, Pv (i + 1), fun σ' H' p' => ⟨xs.length - (i + 1), by omega, rfl, lt, p'⟩, fun v H' y => ?_⟩
    obtain ⟨T, x, ev, hT, e, hx⟩ := y
    rw [e, ev]
    exact hs i x T σ H (hx xs at_a) p hT
  · refine .inl ⟨⟨xs, at_a, Nat.le_of_eq eq.symm⟩, hd σ H ?_⟩
    rw [← eq]
    exact p
/-- a walk over two tuples of one length side by side, whatever is done with the pairs -/
theorem walk_zipT {K : PySem.W.Frag} {a b : Addr} {xs ys : List V} {body : V → Hp → (Hp → Prop) → Prop} {H0 : Hp} {Qd : Hp → Prop} (hl : xs.length = ys.length) (Pv : Nat → Hp → Prop) (h0 : Pv 0 H0) (hq : ∀ i H, Pv i H → SqT K H a xs ∧ SqT K H b ys)
    (hs : ∀ i x y T H, xs[i]? = some x → ys[i]? = some y → Pv i H → H T = none → body (.ref T) (upd H T (.tup [x, y])) (Pv (i + 1))) (hd : ∀ H, Pv xs.length H → Qd H) :
    ∃ W : Nat → Nat → Hp → Prop, (∃ m, W 0 m H0) ∧ ∀ i m H, W i m H → ((RZ.ItzT K a b).stop i H ∧ Qd H) ∨ ((RZ.ItzT K a b).go i H ∧ ∃ Nx : Hp → Prop, (∀ H', Nx H' → ∃ m', m' < m ∧ W (i + 1) m' H') ∧ ∀ x H', (RZ.ItzT K a b).yld i H x H' → body x H' Nx) := by
  refine ⟨fun i m H => m = xs.length - i ∧ i ≤ xs.length ∧ Pv i H, ⟨xs.length, rfl, Nat.zero_le _, h0⟩, fun i m H ⟨em, hi, p⟩ => ?_⟩
  obtain ⟨qx, qy⟩ := hq i H p
  rcases Nat.lt_or_eq_of_le hi with lt | eq
  · refine .inr ⟨⟨xs, ys, xs[i], ys[i]'(by omega), qx, qy, List.getElem?_eq_getElem lt, List.getElem?_eq_getElem (by omega)⟩, Pv (i + 1), fun H' p' => ⟨xs.length - (i + 1), by omega, rfl, lt, p'⟩, fun x H' y => ?_⟩
    obtain ⟨T, x1, y1, ev, hT, e, hx, hy⟩ := y
    rw [e, ev]
    exact hs i x1 y1 T H (hx xs qx) (hy ys qy) p hT
  · refine .inl ⟨⟨xs, ys, qx, qy, .inl (Nat.le_of_eq eq.symm)⟩, hd H ?_⟩
    rw [← eq]
    exact p

/-! ### y = {k: e for x in xs} -/
section
open PySem.Spec PyProof.Rows
theorem ps_setDc {X : Cx} {i : Nat} {y : Str} {py : Pos} {kx vx tg iter : Expr} {ifs : List Expr} {scope : Scope} {own : List (Str × Nat)} {pos spos : Pos} {wi : TI} {g : TG} {tt : TT} {tk tv : TE} (hc : X.calm = true) (hN : X.N.Nodup) (hy : X.N[i]? = some y) (hyl : X.env.scope.names.lookup y = some .local)
    (hsw : swapsWith (.DictComp kx vx [⟨tg, iter, ifs, 0⟩] scope pos) (some (.Name y py)) spos.line X.env = pure true) (hi : PI X tg iter wi) (ok : BlkOk X.N X.env.scope scope own)
    (hg : ∀ (s : Shared) (H : Hp) (C : Addr) (cl : List (Str × Addr)) (fp : List Addr), PG (X.blk s H scope (compEnvC scope cl C X.env) fp) tg g) (ht : ∀ (s : Shared) (H : Hp) (C : Addr) (cl : List (Str × Addr)) (fp : List Addr), PTs (X.blk s H scope (compEnvC scope cl C X.env) fp) ifs tt)
    (hk : ∀ (s : Shared) (H : Hp) (C : Addr) (cl : List (Str × Addr)) (fp : List Addr), PE (X.blk s H scope (compEnvC scope cl C X.env) fp) kx tk)
    (he : ∀ (s : Shared) (H : Hp) (C : Addr) (cl : List (Str × Addr)) (fp : List Addr), PE (X.blk s H scope (compEnvC scope cl C X.env) fp) vx tv) (hs : ∀ x, foldedSetIterable iter X.env x = pure x := by intro _; rfl) :
    PS X (.Assign [.Name y py] (.DictComp kx vx [⟨tg, iter, ifs, 0⟩] scope pos) spos) (tAsg (tDc wi g tt tk tv (own.map (·.2))) (gName i)) := by
  refine ⟨fun pins s σ H D I h => ?_⟩
  rw [exec_Assign_Name_used _ _ _ _ hsw]
  refine wpAny_bind (wpAny_standAt (wpAny_bind ?_))
  show wpAny _ X.A (do let _ ← comprehension (.DictComp kx vx [⟨tg, iter, ifs, 0⟩] scope pos) scope X.env (firstIterPos [⟨tg, iter, ifs, 0⟩] pos) newDict false (eval iter X.env) (some (assign (.Name y py) X.env))) _ _ s
  have h : tDc wi g tt tk tv (own.map (·.2)) σ H (fun x H1 => gName i x σ H1 D.nx) := h
  refine wpAny_bind (thn (dc_core (Qf := fun _ s' => SP X pins D .next s') hc hN I hi ok hg ht hk he hs h fun L C s' m H' I' q hn f => ?_) fun _ s' hq => wpAny_pure (wpAny_pure hq))
  show wpAny _ _ (assign (.Name y py) X.env (.ref L)) _ _ _
  refine wpAny_assign_Name (store_ok2 (v := V.ref L) I' hN hy (.inl hyl) rfl (fun s2 I2 ⟨a, sb, ha⟩ => ?_) (.inr hyl))
  obtain ⟨f0, f1, f2, f3, f4, f5⟩ := f
  have haC : C ≠ a := by
    rcases ha with z | z
    · rw [z]; exact f1
    · exact fun e => f4 y a z e.symm
  refine ⟨m, hn.sameBut sb haC, fun h3 sb3 => ?_⟩
  exact ⟨_, H', I2.turned (t' := s2.toks) (fun b o hb e => (sb3.2 b hb).trans e) f0 f1 f3 f4 f5, q⟩
theorem sw_trueD {kx vx : Expr} {gs : List Comprehension} {scope : Scope} {pos py : Pos} {y : Str} {l : Nat} {env : Env} (hk : env.scope.kind = .function) (hy : env.scope.names.lookup y = some .local) (hl : (py.line == pos.line) = true)
    (ha : (scope.names.any fun (n, k) => n == y && (k == .local || k == .cell)) = false) : swapsWith (.DictComp kx vx gs scope pos) (some (.Name y py)) l env = pure true := by
  have ky : env.kindOf y = some .local := hy
  have hb : env.blockKind = .function := by unfold Env.blockKind; rw [hk]; rfl
  unfold swapsWith
  simp only [hb, ky, ha, Expr.pos, hl]
  rfl
end
/-- a dict made over a text -/
theorem dc_str {x : Str} {g : TG} {tt : TT} {tk tv : TE} {vs : List Nat} {σ : L2.St} {H1 : Hp} {D : Addr} {Qd : Hp → Prop} (Pv : Nat → Hp → Prop) (h0 : Pv 0 (upd H1 D (.dK [])))
    (hs : ∀ i c H, x.cps.toList[i]? = some c → Pv i H → g (.str ⟨#[c]⟩) (wipe σ vs) H fun σ2 H2 => wipe σ2 vs = wipe σ vs ∧ tt σ2 H2 fun b H3 =>
      if b = true then tk σ2 H3 fun y H4 => tv σ2 H4 fun z H5 => ∃ kvs k, y = kV k ∧ H5 D = some (.dK kvs) ∧ kvs.length < sizeLine ∧ Pv (i + 1) (upd H5 D (.dK (putK kvs k z))) else Pv (i + 1) H3) (hd : ∀ H, Pv x.length H → Qd H) :
    ∃ W : Nat → Nat → Hp → Prop, (∃ m, W 0 m (upd H1 D (.dK []))) ∧ ∀ i m H, W i m H →
      ((Its x).stop i H ∧ Qd H) ∨ ((Its x).go i H ∧ ∃ Nx : Hp → Prop, (∀ H', Nx H' → ∃ m', m' < m ∧ W (i + 1) m' H') ∧ ∀ v H', (Its x).yld i H v H' → g v (wipe σ vs) H' fun σ2 H2 => wipe σ2 vs = wipe σ vs ∧ tt σ2 H2 fun b H3 =>
        if b = true then tk σ2 H3 fun y H4 => tv σ2 H4 fun z H5 => ∃ kvs k, y = kV k ∧ H5 D = some (.dK kvs) ∧ kvs.length < sizeLine ∧ Nx (upd H5 D (.dK (putK kvs k z))) else Nx H3) := by
  refine ⟨fun i m H => m = x.length - i ∧ i ≤ x.length ∧ Pv i H, ⟨x.length, rfl, Nat.zero_le _, h0⟩, ?_⟩
  rintro i m H ⟨em, le, p⟩
  rcases Nat.lt_or_eq_of_le le with lt | eq
  · refine .inr ⟨lt, Pv (i + 1), fun H' p' => ⟨x.length - (i + 1), by omega, rfl, lt, p'⟩, fun v H' y => ?_⟩
    obtain ⟨e, c, hc, ev⟩ := y
    rw [e, ev]
    exact hs i c H (by rw [Array.getElem?_toList]; exact hc) p
  · refine .inl ⟨Nat.le_of_eq eq.symm, hd H ?_⟩
    rw [← eq]
    exact p

/-! ### a walk over a text -/
theorem for_str {x : Str} {g : TG} {tb : TS} {D : Ends} {σ : L2.St} {H : Hp} (Pv : Nat → L2.St → Hp → Prop) (h0 : Pv 0 σ H)
    (hs : ∀ i c σ H, x.cps.toList[i]? = some c → Pv i σ H → g (.str ⟨#[c]⟩) σ H fun σ2 H2 => tb { D with nx := Pv (i + 1), ct := Pv (i + 1), bk := D.nx } σ2 H2) (hd : ∀ σ H, Pv x.length σ H → D.nx σ H) :
    ∃ W : Nat → Nat → L2.St → Hp → Prop, (∃ m, W 0 m σ H) ∧ ∀ i m σ H, W i m σ H →
      ((Its x).stop i H ∧ D.nx σ H) ∨ ((Its x).go i H ∧ ∃ N : L2.St → Hp → Prop, (∀ σ' H', N σ' H' → ∃ m', m' < m ∧ W (i + 1) m' σ' H') ∧ ∀ v H', (Its x).yld i H v H' → g v σ H' fun σ2 H2 => tb { D with nx := N, ct := N, bk := D.nx } σ2 H2) := by
  refine ⟨fun i m σ H => m = x.length - i ∧ i ≤ x.length ∧ Pv i σ H, ⟨x.length, rfl, Nat.zero_le _, h0⟩, ?_⟩
  rintro i m σ H ⟨em, le, p⟩
  rcases Nat.lt_or_eq_of_le le with lt | eq
  · refine .inr ⟨lt, Pv (i + 1), fun σ' H' p' => ⟨x.length - (i + 1), by omega, rfl, lt, p'⟩, fun v H' y => ?_⟩
    obtain ⟨e, c, hc, ev⟩ := y
    rw [e, ev]
    exact hs i c σ H (by rw [Array.getElem?_toList]; exact hc) p
  · refine .inl ⟨Nat.le_of_eq eq.symm, hd σ H ?_⟩
    rw [← eq]
    exact p

/-! ### forms -/
structure Fm where
  groups : List Str
  rows : List (List Nat)
  good : List Nat
def Fm.d (f : Fm) : PyData := .tuple [.tuple (f.groups.map .str), .tuple (f.rows.map wordD), wordD f.good]
/-- the place of a letter: the first group with it -/
def placeF : List Str → Nat → Nat
  | [], _ => 0
  | g :: r, c => if c ∈ g.cps.toList then 0 else placeF r c + 1
theorem placeF_cons (g : Str) (r : List Str) (c : Nat) : placeF (g :: r) c = if c ∈ g.cps.toList then 0 else placeF r c + 1 := rfl
theorem placeF_le : ∀ (gs : List Str) (c : Nat), placeF gs c ≤ gs.length
  | [], _ => Nat.le_refl _
  | g :: r, c => by
    unfold placeF
    split
    · exact Nat.zero_le _
    · exact Nat.succ_le_succ (placeF_le r c)
structure FmOk (f : Fm) (m : Nat) : Prop where
  m1 : 1 ≤ m
  m4 : m ≤ 4
  g3 : f.groups.length ≤ 3
  rl : f.rows.length = m
  rr : ∀ row ∈ f.rows, row.length = f.groups.length + 1 ∧ ∀ x ∈ row, x < m
  gl : ∀ z ∈ f.groups, (∀ c ∈ z.cps.toList, 97 ≤ c ∧ c ≤ 122) ∧ z.length ≤ 26
  ap : f.groups.Pairwise fun a b => ∀ c ∈ a.cps.toList, c ∉ b.cps.toList
  gd : f.good = (List.range m).filter fun s => decide (s ∈ f.good)
def nextF (f : Fm) (s c : Nat) : Nat := (f.rows.getD s []).getD (placeF f.groups c) 0
def readF (f : Fm) (s : Nat) (cs : List Nat) : Nat := cs.foldl (nextF f) s
def effF (f : Fm) (cs : List Nat) : List Nat := (List.range f.rows.length).map fun s => readF f s cs
theorem next_at {f : Fm} {m s : Nat} (h : FmOk f m) (hs : s < m) (c : Nat) : ∃ row x, f.rows[s]? = some row ∧ row[placeF f.groups c]? = some x ∧ nextF f s c = x ∧ x < m := by
  have h1 : s < f.rows.length := by rw [h.rl]; exact hs
  obtain ⟨r1, r2⟩ := h.rr _ (List.getElem_mem h1)
  have h2 : placeF f.groups c < f.rows[s].length := by
    have := placeF_le f.groups c
    omega
  refine ⟨f.rows[s], f.rows[s][placeF f.groups c], List.getElem?_eq_getElem h1, List.getElem?_eq_getElem h2, ?_, r2 _ (List.getElem_mem h2)⟩
  unfold nextF
  rw [List.getD_eq_getElem?_getD, List.getD_eq_getElem?_getD, List.getElem?_eq_getElem h1, Option.getD_some, List.getElem?_eq_getElem h2, Option.getD_some]
theorem read_lt {f : Fm} {m : Nat} (h : FmOk f m) : ∀ (cs : List Nat) (s : Nat), s < m → readF f s cs < m
  | [], s, hs => hs
  | c :: r, s, hs => by
    obtain ⟨_, x, _, _, e, lt⟩ := next_at h hs c
    show readF f (nextF f s c) r < m
    rw [e]
    exact read_lt h r x lt
theorem read_more (f : Fm) (s : Nat) {cs : List Nat} {i c : Nat} (h : cs[i]? = some c) : readF f s (cs.take (i + 1)) = nextF f (readF f s (cs.take i)) c := foldl_more (nextF f) s h
theorem eff_len (f : Fm) (cs : List Nat) : (effF f cs).length = f.rows.length := by
  unfold effF
  rw [List.length_map, List.length_range]
theorem eff_more (f : Fm) {cs : List Nat} {i c : Nat} (h : cs[i]? = some c) : effF f (cs.take (i + 1)) = (effF f (cs.take i)).map fun s => nextF f s c := by
  unfold effF
  rw [List.map_map]
  exact List.map_congr_left fun s _ => read_more f s h
theorem eff_lt {f : Fm} {m : Nat} (h : FmOk f m) (cs : List Nat) : ∀ x ∈ effF f cs, x < m := fun x hx => by
  obtain ⟨s, hs, rfl⟩ := List.mem_map.mp hx
  rw [List.mem_range, h.rl] at hs
  exact read_lt h cs s hs
theorem Tp.f_inv {H : Hp} {v : V} {f : Fm} (h : Tp H v f.d) : ∃ (a : Addr) (vg vr : V) (go : Addr), v = .ref a ∧ H a = some (.tup [vg, vr, .ref go]) ∧ Tp H vg (.tuple (f.groups.map .str)) ∧ Tp H vr (.tuple (f.rows.map wordD)) ∧ H go = some (.tup ((iN f.good).map V.int)) := by
  obtain ⟨a, xs, rfl, h1, h2⟩ := h.tup_inv
  cases h2 with
  | @cons vg x2 _ _ tg h2 =>
  cases h2 with
  | @cons vr x3 _ _ tr h3 =>
  cases h3 with
  | @cons vo x4 _ _ to h4 =>
  cases h4
  obtain ⟨go, rfl, hgo⟩ := to.word_inv
  exact ⟨a, vg, vr, go, rfl, h1, tg, tr, hgo⟩
theorem iN_at {l : List Nat} {i x : Nat} (h : l[i]? = some x) : ((iN l).map V.int)[i]? = some (V.int (x : Nat)) := by
  unfold iN
  rw [List.map_map, List.getElem?_map, h]
  rfl
theorem iN_inv {l : List Nat} {i : Nat} {v : V} (h : ((iN l).map V.int)[i]? = some v) : ∃ x, l[i]? = some x ∧ v = V.int (x : Nat) := by
  unfold iN at h
  rw [List.map_map, List.getElem?_map] at h
  cases e : l[i]? with
  | none =>
    rw [e] at h
    cases h
  | some y =>
    rw [e] at h
    exact ⟨y, rfl, (Option.some.inj h).symm⟩
theorem iN_len (l : List Nat) : ((iN l).map V.int).length = l.length := by
  unfold iN
  rw [List.length_map, List.length_map]
theorem inV_nats (x : Nat) : ∀ l : List Nat, inV (.int (x : Nat)) ((iN l).map V.int) = decide (x ∈ l)
  | [] => rfl
  | y :: r => by
    have q := inV_nats x r
    unfold inV at q ⊢
    show (((y : Nat) : Int) == ((x : Nat) : Int) || ((iN r).map V.int).any _) = _
    rw [q]
    by_cases h : x = y
    · subst h
      rw [decide_eq_true List.mem_cons_self, beq_self_eq_true, Bool.true_or]
    · have n1 : (((y : Nat) : Int) == ((x : Nat) : Int)) = false := beq_eq_false_iff_ne.mpr (by omega)
      rw [n1, Bool.false_or]
      by_cases h2 : x ∈ r
      · rw [decide_eq_true h2, decide_eq_true (List.mem_cons_of_mem _ h2)]
      · rw [decide_eq_false h2, decide_eq_false (fun z => (List.mem_cons.mp z).elim h h2)]
theorem flat_nat (l : List Nat) : ((iN l).map V.int).all flatV = true := flat_ints _
def spPlace : Sp := fun vs H Q _ => ∃ (x : V) (gs : List Str) (c : Nat), vs = [x, .str ⟨#[c]⟩] ∧ Tp H x (.tuple (gs.map .str)) ∧ gs.length ≤ 1000 ∧ ∀ H', Same H H' → Q (.int (placeF gs c : Nat)) H'
def spEffect : Sp := fun vs H Q _ => ∃ (x : V) (f : Fm) (m : Nat) (z : Str), vs = [x, .str z] ∧ Tp H x f.d ∧ FmOk f m ∧ z.length ≤ 30000 ∧ ∀ (v : V) H', Same H H' → Tp H' v (wordD (effF f z.cps.toList)) → Q v H'
def accF (f : Fm) (cs : List Nat) : Bool := decide (readF f 0 cs ∈ f.good)
def spAccepts : Sp := fun vs H Q _ => ∃ (x : V) (f : Fm) (m : Nat) (z : Str), vs = [x, .str z] ∧ Tp H x f.d ∧ FmOk f m ∧ z.length ≤ 30000 ∧ ∀ H', Same H H' → Q (.bl (accF f z.cps.toList)) H'
def oppF (f : Fm) : Fm := ⟨f.groups, f.rows, (List.range f.rows.length).filter fun s => !decide (s ∈ f.good)⟩
def spOpposite : Sp := fun vs H Q _ => ∃ (x : V) (f : Fm) (m : Nat), vs = [x] ∧ Tp H x f.d ∧ FmOk f m ∧ ∀ (v : V) H', Same H H' → Tp H' v (oppF f).d → Q v H'
theorem opp_ok {f : Fm} {m : Nat} (h : FmOk f m) : FmOk (oppF f) m := by
  refine ⟨h.m1, h.m4, h.g3, h.rl, h.rr, h.gl, h.ap, ?_⟩
  have eg : (oppF f).good = (List.range m).filter fun s => !decide (s ∈ f.good) := by
    show (List.range f.rows.length).filter _ = _
    rw [h.rl]
  rw [eg]
  refine List.filter_congr fun s hs => ?_
  by_cases c : s ∈ f.good
  · rw [decide_eq_true c, decide_eq_false]
    · rfl
    · rw [List.mem_filter]
      intro z
      rw [decide_eq_true c] at z
      cases z.2
  · rw [decide_eq_false c, decide_eq_true]
    · rfl
    · rw [List.mem_filter]
      exact ⟨hs, by rw [decide_eq_false c]; rfl⟩
theorem opp_mem {f : Fm} {m s : Nat} (h : FmOk f m) (hs : s < m) : decide (s ∈ (oppF f).good) = !decide (s ∈ f.good) := by
  show decide (s ∈ (List.range f.rows.length).filter fun s => !decide (s ∈ f.good)) = _
  by_cases c : s ∈ f.good
  · rw [decide_eq_true c, decide_eq_false]
    · rfl
    · rw [List.mem_filter]
      intro z
      rw [decide_eq_true c] at z
      cases z.2
  · rw [decide_eq_false c, decide_eq_true]
    · rfl
    · rw [List.mem_filter, List.mem_range, h.rl]
      exact ⟨hs, by rw [decide_eq_false c]; rfl⟩
theorem opp_opp {f : Fm} {m : Nat} (h : FmOk f m) : oppF (oppF f) = f := by
  have e : (oppF (oppF f)).good = f.good := by
    show (List.range f.rows.length).filter (fun s => !decide (s ∈ (oppF f).good)) = f.good
    rw [h.rl]
    conv => rhs; rw [h.gd]
    refine List.filter_congr fun s hs => ?_
    rw [opp_mem h (List.mem_range.mp hs), Bool.not_not]
  show Fm.mk f.groups f.rows (oppF (oppF f)).good = f
  rw [e]
theorem sc_place_of : FnScope ["groups", "letter", "place", "group"] ["groups", "letter"] (fnScope st_place_of) := fnScope_by (by decide +kernel)
def nEffect : List Str := ["form", "text", "groups", "rows", "_", "places", "found", "letter", "place", "state"]
theorem sc_effect : FnScope nEffect ["form", "text"] (fnScope st_effect_) := fnScope_by (by decide +kernel)
theorem sc_accepts : FnScope ["form", "text"] ["form", "text"] (fnScope st_accepts_) := fnScope_by (by decide +kernel)
theorem sc_opposite : FnScope ["form", "groups", "rows", "good", "state"] ["form"] (fnScope st_opposite_) := fnScope_by (by decide +kernel)
theorem op_notInK {X : Cx} (K : PySem.W.Frag) (h : X.K = K := by rfl) : OpR X (compareOp .NotIn) (rIn K true) := by
  rw [← h]
  exact op_notIn_seq
section
variable {P : Program} {w : World} {K : PySem.W.Frag} {mg : Str → Option Value} {base : Heap} {f : Addr} {fd : FuncData}
theorem cal_place_of (F : C8.Def K mg "_place_of" st_place_of f fd) (b : Binds K fd ["groups", "letter"] []) (Be : mg "enumerate" = none) (Bl : mg "len" = none) : Cal P w K mg base 1 "_place_of" spPlace [] := by
  refine cal0 F b .nil sc_place_of (fun vs H Q E h => ?_) (fun cdv A outer s H vs Q E hr h => ?_)
  · obtain ⟨x, gs, c, rfl, _⟩ := h
    rfl
  · obtain ⟨x, gs, c, rfl, hx, g1000, k⟩ := h
    obtain ⟨a, xs, rfl, h1, h2⟩ := hx.tup_inv
    obtain rfl := tpAll_strs h2
    refine ⟨_, pss_cons (ps_for PassesOwn.never rfl (ET.pi_enumT rfl Be (pa_cons (pv 0) pa_nil)) (pg_tup rfl (pgs_cons (pg_name (i := 2) sc_place_of.nd rfl (Or.inl rfl)) (pgs_cons (pg_name (i := 3) sc_place_of.nd rfl (Or.inl rfl)) pgs_nil)))
        (pss_one (ps_if (pt_cmpR op_in_sign (pv 1) (pv 3) rfl) (pss_one (ps_ret (pv 2))) pss_nil)))
      (pss_one (ps_ret (pe_callB call_len_seq (by rfl) Bl PySem.boot_len (pa_cons (pv 0) pa_nil)))), ?_⟩
    have ls : (gs.map V.str).length = gs.length := List.length_map ..
    refine ⟨_, rfl, a, _, rfl, SqT.of h1, for_enumT (K := K) (a := a) (xs := gs.map V.str) (fun i σ H' => Same H H' ∧ placeF gs c = i + placeF (gs.drop i) c ∧ ∃ v2 v3 : Option V, σ = [some (.ref a), some (.str ⟨#[c]⟩), v2, v3]) ⟨Same.refl _, by rw [List.drop_zero, Nat.zero_add], _, _, rfl⟩ (fun i σ H' h => SqT.of (h.1 _ _ h1)) ?_ ?_⟩
    · rintro i x T σ H1 hx ⟨s1, ep, v2, v3, rfl⟩ hT
      have ilt : i < gs.length := by
        have q := (List.getElem?_eq_some_iff.mp hx).1
        omega
      obtain rfl : V.str gs[i] = x := by
        rw [List.getElem?_map, List.getElem?_eq_getElem ilt] at hx
        exact Option.some.inj hx
      have sT := same_new (o := .tup [.int (i : Nat), .str gs[i]]) hT
      refine ⟨T, _, rfl, SqT.of upd_same, rfl, _, _, rfl, _, _, rfl, rfl, ?_⟩
      have s2 := Same.trans s1 sT
      rw [List.drop_eq_getElem_cons ilt] at ep
      rw [placeF_cons] at ep
      refine ⟨_, rfl, _, rfl, c, gs[i], rfl, rfl, _, rfl, ?_⟩
      by_cases hc : c ∈ gs[i].cps.toList
      · rw [if_pos hc, Nat.add_zero] at ep
        refine iteT' (decide_eq_true hc) ⟨_, rfl, ?_⟩
        have q := k _ s2
        rw [ep] at q
        exact q
      · rw [if_neg hc] at ep
        exact iteF' (decide_eq_false hc) ⟨s2, by omega, _, _, rfl⟩
    · rintro σ H1 ⟨s1, ep, v2, v3, rfl⟩
      rw [ls, List.drop_length] at ep
      refine ⟨_, rfl, a, _, rfl, .inr (SqT.of (s1 _ _ h1)), ?_⟩
      have q := k _ s1
      rw [ep] at q
      rw [ls]
      exact q
theorem cal_effect (F : C8.Def K mg "effect" st_effect_ f fd) (b : Binds K fd ["form", "text"] []) (B : BN2 mg) (Cp : Cal P w K mg base 1 "_place_of" spPlace []) : Cal P w K mg base 2 "effect" spEffect [] := by
  refine cal0 F b .nil sc_effect (fun vs H Q E h => ?_) (fun cdv A outer s H vs Q E hr h => ?_)
  · obtain ⟨x, f, m, z, rfl, _⟩ := h
    rfl
  · obtain ⟨x, fm, m, z, rfl, hx, hf, hz, k⟩ := h
    obtain ⟨a, vg, vr, go, rfl, h1, tg, tr, hgo⟩ := hx.f_inv
    obtain ⟨ra, rx, rfl, r1, r2⟩ := tr.tup_inv
    have lr : rx.length = m := by rw [r2.len, List.length_map]; exact hf.rl
    have m4 := hf.m4
    refine ⟨_, pss_cons (ps_asg (pv 0) (pg_tup rfl (pgs_cons (pg_name (i := 2) sc_effect.nd rfl (Or.inr rfl)) (pgs_cons (pg_name (i := 3) sc_effect.nd rfl (Or.inr rfl)) (pgs_cons (pg_name (i := 4) sc_effect.nd rfl (Or.inl rfl)) pgs_nil)))))
      (pss_cons (ps_setDc (i := 5) (own := [("letter", 7)]) (g := gName 7) (tt := tYes) (by rfl) sc_effect.nd rfl rfl (sw_trueD rfl rfl rfl (by decide +kernel)) (pi_str (pv 1))
        (blkOk_by (own := [("letter", 7)]) (N := nEffect) (sc := fnScope st_effect_) (by decide +kernel)) (fun _ _ _ _ _ => pg_name (i := 7) sc_effect.nd rfl (Or.inl rfl)) (fun _ _ _ _ _ => pts_nil)
        (fun _ _ _ _ _ => pv 7) (fun _ _ _ _ _ => pe_c Cp hr (by decide) (by rfl) (pa_cons (pv 2) (pa_cons (pv 7) pa_nil))))
      (pss_cons (ps_set (i := 6) sc_effect.nd rfl (Or.inl rfl) (pe_listRg rfl (by rfl) B.list (prg_1 (by rfl) B.range (pe_callB call_len_seq (by rfl) B.len PySem.boot_len (pa_cons (pv 3) pa_nil)))))
      (pss_cons (ps_for PassesOwn.never rfl (pi_str (pv 1)) (pg_name (i := 7) sc_effect.nd rfl (Or.inl rfl))
        (pss_cons (ps_set (i := 8) sc_effect.nd rfl (Or.inr rfl) (pe_dget (hu_of hr) (pv 5) (pv 7) (fun _ _ => rfl)))
        (pss_one (ps_setLc (i := 6) (own := [("state", 9)]) (g := gName 9) (tt := tYes) (by rfl) sc_effect.nd rfl rfl (sw_true rfl rfl rfl (by decide +kernel)) (pi_list (pv 6))
          (blkOk_by (own := [("state", 9)]) (N := nEffect) (sc := fnScope st_effect_) (by decide +kernel)) (fun _ _ _ _ _ => pg_name (i := 9) sc_effect.nd rfl (Or.inl rfl)) (fun _ _ _ _ _ => pts_nil)
          (fun _ _ _ _ _ => pe_ix (ix_tupK K) (pe_ix (ix_tupK K) (pv 3) (pv 9) (fun _ _ => rfl)) (pv 8) (fun _ _ => rfl))))))
      (pss_one (ps_ret (pe_callTy call_tuple_of (by rfl) B.tuple (by decide +kernel) (pa_cons (pv 6) pa_nil))))))), ?_⟩
    refine ⟨_, rfl, a, _, rfl, SqT.of h1, rfl, _, _, rfl, _, _, rfl, _, _, rfl, rfl, ?_⟩
    refine ⟨_, rfl, z, rfl, fun D hD => ?_⟩
    have D0 : H D = none := hD
    refine dc_str (x := z) (fun i H' => Same H H' ∧ ∃ kvs : List (Key × V), H' D = some (.dK kvs) ∧ kvs.length ≤ i ∧ ∀ c ∈ z.cps.toList.take i, valV kvs (Sum.inr ⟨#[c]⟩) = some (V.int (placeF fm.groups c : Nat))) ⟨same_new hD, [], upd_same, Nat.zero_le _, fun c hc => (by cases hc)⟩ ?_ ?_
    · rintro i c H1 hc ⟨s1, kvs, hk, kl, kc⟩
      have ilt : i < z.length := by
        have q := (List.getElem?_eq_some_iff.mp hc).1
        rw [Array.length_toList] at q
        exact q
      refine ⟨rfl, _, rfl, _, rfl, _, rfl, vg, fm.groups, c, rfl, tg.mono (Same.tk s1), Nat.le_trans hf.g3 (by decide), fun H2 s2 => ⟨kvs, Sum.inr ⟨#[c]⟩, rfl, s2 _ _ hk, ?_, Same.put (Same.trans s1 s2) D0, _, upd_same, ?_, ?_⟩⟩
      · exact Nat.lt_of_le_of_lt (show kvs.length ≤ 30000 by omega) (by decide)
      · have := length_putK kvs (Sum.inr (⟨#[c]⟩ : Str) : Key) (V.int (placeF fm.groups c : Nat))
        omega
      · intro d hd
        rw [List.take_add_one, hc] at hd
        rw [valV_put]
        by_cases e : d = c
        · subst e
          rw [if_pos rfl]
        · rw [if_neg (fun z => e (by have q := Sum.inr.inj z; have q2 := congrArg (fun (s : Str) => s.cps.toList) q; simpa using q2))]
          rcases List.mem_append.mp hd with hd | hd
          · exact kc d hd
          · exact absurd (List.mem_singleton.mp hd) e
    rintro H1 ⟨s1, kvs, hk, kl, kc⟩
    rw [List.take_of_length_le (by rw [Array.length_toList]; exact Nat.le_refl _)] at kc
    refine ⟨_, rfl, ra, _, rfl, .inr (SqT.of (s1 _ _ r1)), m, by rw [lr], RgOk.of_le (by decide) (by omega) (by decide) (by omega), fun l hl => ?_⟩
    have s2 := same_new (o := .lst (rgV 0 (m : Int))) hl
    have hL : upd H1 l (.lst (rgV 0 (m : Int))) l = some (.lst ((iN (effF fm [])).map V.int)) := by
      rw [upd_same, rg_eq]
      have e : effF fm [] = List.range m := by
        unfold effF readF
        rw [hf.rl]
        exact List.map_id _
      rw [e]
    have hk2 := s2 _ _ hk
    have s02 := Same.trans s1 s2
    generalize upd H1 l (.lst (rgV 0 (m : Int))) = H2 at s02 hL hk2 ⊢
    refine ⟨_, rfl, z, rfl, for_str (x := z) (fun i σ H' => Same H2 H' ∧ ∃ (Fl : Addr) (v7 v8 : Option V), σ = [some (.ref a), some (.str z), some vg, some (.ref ra), some (.ref go), some (.ref D), some (.ref Fl), v7, v8, none] ∧ H' Fl = some (.lst ((iN (effF fm (z.cps.toList.take i))).map V.int))) ⟨Same.refl _, l, _, _, rfl, hL⟩ ?_ ?_⟩
    · rintro i c σ H3 hc ⟨s3, Fl, v7, v8, rfl, hF⟩
      have hcm := List.mem_of_getElem? hc
      refine ⟨_, rfl, _, rfl, D, V.int (placeF fm.groups c : Nat), rfl, ?_, ?_⟩
      · have q := DGet.k (k := (Sum.inr (⟨#[c]⟩ : Str) : Key)) (s3 _ _ hk2)
        rw [kc c hcm] at q
        exact q
      · have ll : ((iN (effF fm (z.cps.toList.take i))).map V.int).length = m := by rw [iN_len, eff_len, hf.rl]
        refine ⟨_, rfl, Fl, rfl, ⟨_, SqL.of hF⟩, fun G hG => ?_⟩
        refine lc_list (K := K) (a := Fl) (xs := (iN (effF fm (z.cps.toList.take i))).map V.int) (fun j H' => Same H3 H' ∧ H' G = some (.lst (((iN (effF fm (z.cps.toList.take (i + 1)))).map V.int).take j))) ⟨same_new hG, by rw [upd_same, List.take_zero]⟩ (fun j H' _ h => SqL.of (h.1 _ _ hF)) ?_ ?_
        · rintro j v H4 hj ⟨s4, hGL⟩
          obtain ⟨st, hst, rfl⟩ := iN_inv hj
          have stl := eff_lt hf _ st (List.mem_of_getElem? hst)
          obtain ⟨row, x, n1, n2, n3, n4⟩ := next_at hf stl c
          obtain ⟨rv, q1, q2⟩ := r2.at n1
          obtain ⟨rwa, rfl, q3⟩ := q2.word_inv
          have s0 := Same.trans s02 (Same.trans s3 s4)
          have hnew : ((iN (effF fm (z.cps.toList.take (i + 1)))).map V.int)[j]? = some (V.int (x : Nat)) := by
            refine iN_at ?_
            rw [eff_more fm hc, List.getElem?_map, hst]
            exact congrArg some n3
          refine ⟨rfl, _, rfl, _, rfl, ra, rx, _, _, rfl, rfl, SqT.of (s0 _ _ r1), atI_nat q1, _, rfl, rwa, _, _, _, rfl, rfl, SqT.of (s0 _ _ q3), atI_nat (iN_at n2), _, hGL, ?_, Same.put s4 hG, ?_⟩
          · rw [List.length_take]
            have := (List.getElem?_eq_some_iff.mp hj).1
            exact Nat.lt_of_le_of_lt (Nat.min_le_left _ _) (Nat.lt_of_lt_of_le (show j < 10 by omega) (by decide))
          · rw [upd_same]
            generalize (iN (effF fm (z.cps.toList.take (i + 1)))).map V.int = L at hnew ⊢
            rw [List.take_add_one, hnew]
            rfl
        · rintro H4 ⟨s4, hGL⟩
          have e : ((iN (effF fm (z.cps.toList.take (i + 1)))).map V.int).length = m := by rw [iN_len, eff_len, hf.rl]
          rw [ll, List.take_of_length_le (Nat.le_of_eq e)] at hGL
          exact ⟨Same.trans s3 s4, G, _, _, rfl, hGL⟩
    · rintro σ H3 ⟨s3, Fl, v7, v8, rfl, hF⟩
      rw [List.take_of_length_le (by rw [Array.length_toList]; exact Nat.le_refl _)] at hF
      refine ⟨_, rfl, Fl, _, rfl, .inl ⟨SqL.of hF, fun u hu => k _ _ (Same.trans (Same.trans s02 s3) (same_new hu)) (tp_word upd_same)⟩⟩
theorem cal_accepts (F : C8.Def K mg "accepts" st_accepts_ f fd) (b : Binds K fd ["form", "text"] []) (Ce : Cal P w K mg base 2 "effect" spEffect []) : Cal P w K mg base 3 "accepts" spAccepts [] := by
  refine cal0 F b .nil sc_accepts (fun vs H Q E h => ?_) (fun cdv A outer s H vs Q E hr h => ?_)
  · obtain ⟨x, f, m, z, rfl, _⟩ := h
    rfl
  · obtain ⟨x, fm, m, z, rfl, hx, hf, hz, k⟩ := h
    have hx0 := hx
    obtain ⟨a, vg, vr, go, rfl, h1, tg, tr, hgo⟩ := hx.f_inv
    refine ⟨_, pss_one (ps_ret (pe_cmpR op_in_seq (pe_ix ix_tup (pe_c Ce hr (by decide) (by rfl) (pa_cons (pv 0) (pa_cons (pv 1) pa_nil))) pe_int (fun _ _ => rfl)) (pe_ix ix_tup (pv 0) pe_int (fun _ _ => rfl)) (by with_unfolding_all rfl))), ?_⟩
    refine ⟨_, rfl, _, rfl, .ref a, fm, m, z, rfl, hx0, hf, hz, fun v H1 s1 tv => ?_⟩
    obtain ⟨e, rfl, he⟩ := tv.word_inv
    have e0 : (effF fm z.cps.toList)[0]? = some (readF fm 0 z.cps.toList) := by
      unfold effF
      rw [List.getElem?_map, List.getElem?_range (show 0 < fm.rows.length by rw [hf.rl]; exact hf.m1)]
      rfl
    refine ⟨e, _, _, _, rfl, rfl, SqT.of he, atI_nat (j := 0) (iN_at e0), _, rfl, a, _, _, _, rfl, rfl, SqT.of (s1 _ _ h1), atI_nat (j := 2) rfl, go, _, rfl, .inr (SqT.of (s1 _ _ hgo)), rfl, flat_nat _, ?_⟩
    have q := k _ s1
    unfold accF at q
    rw [if_neg Bool.false_ne_true, inV_nats]
    exact q
theorem cal_opposite (F : C8.Def K mg "opposite" st_opposite_ f fd) (b : Binds K fd ["form"] []) (B : BN2 mg) : Cal P w K mg base 1 "opposite" spOpposite [] := by
  refine cal0 F b .nil sc_opposite (fun vs H Q E h => ?_) (fun cdv A outer s H vs Q E hr h => ?_)
  · obtain ⟨x, f, m, rfl, _⟩ := h
    rfl
  · obtain ⟨x, fm, m, rfl, hx, hf, k⟩ := h
    obtain ⟨a, vg, vr, go, rfl, h1, tg, tr, hgo⟩ := hx.f_inv
    have tr0 := tr
    obtain ⟨ra, rx, rfl, r1, r2⟩ := tr.tup_inv
    have lr : rx.length = m := by rw [r2.len, List.length_map]; exact hf.rl
    have m4 := hf.m4
    refine ⟨_, pss_cons (ps_asg (pv 0) (pg_tup rfl (pgs_cons (pg_name (i := 1) sc_opposite.nd rfl (Or.inl rfl)) (pgs_cons (pg_name (i := 2) sc_opposite.nd rfl (Or.inl rfl)) (pgs_cons (pg_name (i := 3) sc_opposite.nd rfl (Or.inr rfl)) pgs_nil)))))
      (pss_one (ps_ret (pe_tup (pa_cons (pv 1) (pa_cons (pv 2) (pa_cons (pe_callTy call_tuple_of (by rfl) B.tuple (by decide +kernel) (pa_cons (pe_lc (own := [("state", 4)]) (g := gName 4) (tt := tTest (tOp (rIn K true) (tVar 4) (tVar 3))) (by rfl) sc_opposite.nd (pi_range1 rfl B.range (pa_cons (pe_callB call_len_seq (by rfl) B.len PySem.boot_len (pa_cons (pv 2) pa_nil)) pa_nil))
        (blkOk_by (own := [("state", 4)]) (N := ["form", "groups", "rows", "good", "state"]) (sc := fnScope st_opposite_) (by decide +kernel)) (fun _ _ _ _ _ => pg_name (i := 4) sc_opposite.nd rfl (Or.inl rfl))
        (fun _ _ _ _ _ => pts_one (pt_cmpR (op_notInK K) (pv 4) (pv 3) (by with_unfolding_all rfl))) (fun _ _ _ _ _ => pv 4)) pa_nil)) pa_nil)))))), ?_⟩
    refine ⟨_, rfl, a, _, rfl, SqT.of h1, rfl, _, _, rfl, _, _, rfl, _, _, rfl, rfl, ?_⟩
    refine ⟨_, rfl, _, rfl, _, rfl, ra, _, rfl, .inr (SqT.of r1), _, rfl, by omega, by omega, fun D hD => ?_⟩
    have ld : (rx.length : Int).toNat = m := by rw [lr]; rfl
    refine lc_range (lo := 0) (n := (rx.length : Int).toNat) (fun i H' => Same H H' ∧ H' D = some (.lst ((iN ((List.range i).filter fun s => !decide (s ∈ fm.good))).map V.int))) ⟨same_new hD, upd_same⟩ ?_ ?_
    · rintro i H1 hi ⟨s1, hL⟩
      have e0 : (0 : Int) + (i : Int) = ((i : Nat) : Int) := Int.zero_add _
      refine ⟨rfl, _, rfl, _, rfl, go, _, rfl, .inr (SqT.of (s1 _ _ hgo)), rfl, flat_nat _, _, rfl, ?_⟩
      rw [if_pos rfl, e0, inV_nats]
      have more : (List.range (i + 1)).filter (fun s => !decide (s ∈ fm.good)) = (List.range i).filter (fun s => !decide (s ∈ fm.good)) ++ (if (!decide (i ∈ fm.good)) = true then [i] else []) := by
        rw [List.range_succ, List.filter_append, List.filter_cons, List.filter_nil]
      cases c : (!decide (i ∈ fm.good)) with
      | true =>
        refine iteT' rfl ⟨_, rfl, _, hL, ?_, Same.put s1 hD, ?_⟩
        · rw [iN_len]
          exact Nat.lt_of_le_of_lt (Nat.le_trans (List.length_filter_le _ _) (by rw [List.length_range]; exact Nat.le_of_lt hi)) (by rw [ld]; exact Nat.lt_of_le_of_lt m4 (by decide))
        · rw [upd_same, more, if_pos c, iN_app]
      | false =>
        refine iteF' rfl ⟨s1, ?_⟩
        rw [more, if_neg (by rw [c]; exact Bool.false_ne_true), List.append_nil]
        exact hL
    · rintro H1 ⟨s1, hL⟩
      rw [ld] at hL
      refine ⟨D, _, rfl, .inl ⟨SqL.of hL, fun u hu => ⟨(by show 3 ≤ sizeLine; decide), fun t ht => ?_⟩⟩⟩
      have s2 := Same.trans s1 (same_new (o := .tup ((iN ((List.range m).filter fun s => !decide (s ∈ fm.good))).map V.int)) hu)
      have s3 := Same.trans s2 (same_new (o := .tup [vg, .ref ra, .ref u]) ht)
      refine k _ _ s3 (.tup upd_same (.cons (tg.mono (Same.tk s3)) (.cons (tr0.mono (Same.tk s3)) (.cons (tp_word ?_) .nil))))
      rw [upd_ne (ne_of_none upd_same ht), upd_same]
      show some (HO.tup ((iN ((List.range m).filter fun s => !decide (s ∈ fm.good))).map V.int)) = some (HO.tup ((iN ((List.range fm.rows.length).filter fun s => !decide (s ∈ fm.good))).map V.int))
      rw [hf.rl]
end

/-! ### drawn letters -/
def abcF : List Str := ["abc", "ab", "abcdefghijklmnopqrstuvwxyz"]
theorem abcF_low : ∀ z ∈ abcF, 0 < z.length ∧ z.length < 1000 ∧ ∀ c ∈ z.cps.toList, 97 ≤ c ∧ c ≤ 122 := by decide +kernel
def spLetF : Sp := fun vs H Q _ => ∃ (p c : Addr) (m : Nat), vs = [.ref p, .int m] ∧ Pen H p c ∧ m < 900 ∧ ∀ (z : Str) H', Tx m z → Kp p c H H' → Q (.str z) H'
theorem sc_letF : FnScope ["pen", "most", "letters", "lap"] ["pen", "most"] (fnScope st_law_letters) := fnScope_by (by decide +kernel)
section
variable {P : Program} {w : World} {K : PySem.W.Frag} {mg : Str → Option Value} {base : Heap} {f : Addr} {fd : FuncData}
theorem cal_letF (F : C8.Def K mg "_law_letters" st_law_letters f fd) (b : Binds K fd ["pen", "most"] []) (B : BN mg) (Cd : Cal P w K mg base 2 "_law_draw" spDraw []) (Co : Cal P w K mg base 3 "_law_one_of" (spOne K) []) : Cal P w K mg base 4 "_law_letters" spLetF [] := by
  refine cal0 F b .nil sc_letF (fun vs H Q E h => ?_) (fun cdv A outer s H vs Q E hr h => ?_)
  · obtain ⟨p, c, m, rfl, _⟩ := h
    rfl
  · obtain ⟨p, c, m, rfl, hP, m9, k⟩ := h
    refine ⟨_, pss_cons (ps_set (i := 2) sc_letF.nd rfl (Or.inr rfl) (pe_c Co hr (by decide) (by rfl) (pa_cons (pv 0) (pa_cons (pe_lst (pa_cons pe_str (pa_cons pe_str (pa_cons pe_str pa_nil)))) pa_nil))))
      (pss_one (ps_ret (pe_join pe_str (pe_lc (own := [("lap", 3)]) (g := gName 3) (tt := tYes) (by rfl) sc_letF.nd (pi_range1 rfl B.range (pa_cons (pe_c Cd hr (by decide) (by rfl) (pa_cons (pv 0) (pa_cons (pe_op op_add (pv 1) pe_int) pa_nil))) pa_nil))
        (blkOk_by (own := [("lap", 3)]) (N := ["pen", "most", "letters", "lap"]) (sc := fnScope st_law_letters) (by decide +kernel)) (fun _ _ _ _ _ => pg_name (i := 3) sc_letF.nd rfl (Or.inl rfl)) (fun _ _ _ _ _ => pts_nil)
        (fun _ _ _ _ _ => pe_c Co hr (by decide) (by rfl) (pa_cons (pv 0) (pa_cons (pv 2) pa_nil))))))), ?_⟩
    refine ⟨_, rfl, (by show 3 ≤ sizeLine; decide), fun a ha => ⟨p, c, hP.new ha, .inl ⟨a, _, rfl, hP.ne ha, SqL.of upd_same, by decide, by decide, fun x H1 hx k1 => ?_⟩⟩⟩
    obtain ⟨z, hz, rfl⟩ : ∃ z ∈ abcF, x = V.str z := by
      have hx' : x ∈ abcF.map V.str := hx
      obtain ⟨z, h1, h2⟩ := List.mem_map.mp hx'
      exact ⟨z, h1, h2.symm⟩
    obtain ⟨z0, z1, z2⟩ := abcF_low z hz
    have kA : Kp p c H H1 := (Kp.new (Kp.rfl' hP) ha).trans k1
    refine ⟨⟨_, rfl⟩, ?_⟩
    refine ⟨_, rfl, _, rfl, _, _, rfl, rfl, p, c, _, rfl, kA.pen, by omega, log_small (by omega) (by omega), fun d H2 d0 d1 k2 => ?_⟩
    have kB : Kp p c H H2 := kA.trans k2
    refine ⟨d, rfl, by omega, by omega, fun D hD => ?_⟩
    refine lc_range (lo := 0) (n := d.toNat) (fun i H' => Kp p c H H' ∧ ∃ ys : List Str, H' D = some (.lst (ys.map V.str)) ∧ H D = none ∧ ys.length = i ∧ ∀ y ∈ ys, y.length = 1 ∧ ∀ c ∈ y.cps.toList, 97 ≤ c ∧ c ≤ 122)
      ⟨kB.new hD, [], upd_same, kB.free hD, rfl, fun y hy => (by cases hy)⟩ ?_ ?_
    · rintro i H3 hi ⟨k3, ys, hL, hD0, hl, hy⟩
      refine ⟨rfl, ?_⟩
      refine ⟨_, rfl, _, rfl, p, c, k3.pen, .inr ⟨z, rfl, z0, z1, fun g H4 hg k4 => ?_⟩⟩
      have nD : D ≠ p := hP.ne hD0
      refine ⟨_, k4.but _ _ nD hL, ?_, (k3.trans k4).put hP hD0, ys ++ [⟨#[g]⟩], ?_, hD0, ?_, ?_⟩
      · rw [List.length_map]
        exact Nat.lt_of_lt_of_le (show ys.length < 1000 by omega) (by decide)
      · rw [upd_same, List.map_append]
        rfl
      · rw [List.length_append, hl]
        rfl
      · intro y hm
        rcases List.mem_append.mp hm with hm | hm
        · exact hy y hm
        · obtain rfl := List.mem_singleton.mp hm
          exact ⟨rfl, fun c' hc' => by
            obtain rfl : c' = g := by simpa using hc'
            exact z2 _ hg⟩
    · rintro H3 ⟨k3, ys, hL, hD0, hl, hy⟩
      have e1 : (Txt.join "" ys).length = ys.length := by rw [join_len, lens_one ys fun y hy' => (hy y hy').1]
      refine ⟨_, D, ys, rfl, rfl, .inl (SqL.of hL), ?_, k _ _ ⟨by rw [e1]; omega, fun c' hc' => ?_⟩ k3⟩
      · rw [lens_one ys fun y hy' => (hy y hy').1]
        have e0 : (("" : Str)).length = 0 := by decide
        rw [e0]
        omega
      · rw [join_cps] at hc'
        obtain ⟨l, h1, h2⟩ := List.mem_flatten.mp hc'
        obtain ⟨y, h3, rfl⟩ := List.mem_map.mp h1
        exact (hy y h3).2 _ h2
end
/-! ### drawn groups -/
theorem ix_nat {n j : Nat} (hj : j < n) : ixN n (j : Int) = some j := by
  unfold ixN
  rw [if_pos (by omega), if_pos (by omega)]
  exact congrArg some (by omega)
/-- three texts: their letters are of the first so many, none stands in two of them -/
structure GI (i : Nat) (zs : List Str) : Prop where
  l3 : zs.length = 3
  ok : ∀ z ∈ zs, z.length ≤ i ∧ ∀ c ∈ z.cps.toList, 97 ≤ c ∧ c < 97 + i
  own : ∃ o : Nat → Nat, ∀ (j : Nat) (z : Str), zs[j]? = some z → ∀ c ∈ z.cps.toList, o c = j
theorem one_list (c : Nat) : (⟨#[c]⟩ : Str).cps.toList = [c] := rfl
theorem cat_cps (a b : Str) : (a ++ b).cps.toList = a.cps.toList ++ b.cps.toList := by
  show (a.cps ++ b.cps).toList = _
  rw [Array.toList_append]
theorem GI.grow {i : Nat} {zs : List Str} (h : GI i zs) : GI (i + 1) zs := ⟨h.l3, fun z hz => ⟨Nat.le_succ_of_le (h.ok z hz).1, fun c hc => by have := (h.ok z hz).2 c hc; omega⟩, h.own⟩
theorem GI.put {i j : Nat} {zs : List Str} {z : Str} (h : GI i zs) (hz : zs[j]? = some z) : GI (i + 1) (zs.set j (z ++ ⟨#[97 + i]⟩)) := by
  have hm := List.mem_of_getElem? hz
  refine ⟨by rw [List.length_set]; exact h.l3, fun y hy => ?_, ?_⟩
  · rcases List.mem_or_eq_of_mem_set hy with hy | rfl
    · exact h.grow.ok y hy
    · obtain ⟨a1, a2⟩ := h.ok z hm
      refine ⟨?_, fun c hc => ?_⟩
      · rw [len_cat]
        exact Nat.succ_le_succ a1
      · rw [cat_cps, one_list] at hc
        rcases List.mem_append.mp hc with hc | hc
        · have := a2 c hc
          omega
        · rw [List.mem_singleton.mp hc]
          omega
  · obtain ⟨o, ho⟩ := h.own
    refine ⟨fun c => if c = 97 + i then j else o c, fun j2 y hy c hc => ?_⟩
    show (if c = 97 + i then j else o c) = j2
    rw [List.getElem?_set] at hy
    by_cases e : j = j2
    · subst e
      rw [if_pos rfl] at hy
      split at hy
      · cases hy
        rw [cat_cps, one_list] at hc
        rcases List.mem_append.mp hc with hc | hc
        · have := (h.ok z hm).2 c hc
          rw [if_neg (by omega)]
          exact ho j z hz c hc
        · rw [if_pos (List.mem_singleton.mp hc)]
      · cases hy
    · rw [if_neg e] at hy
      have := (h.ok y (List.mem_of_getElem? hy)).2 c hc
      rw [if_neg (by omega)]
      exact ho j2 y hy c hc
theorem GI.zero : GI 0 ["", "", ""] := by
  refine ⟨rfl, fun z hz => ?_, fun _ => 0, fun j z hz c hc => ?_⟩
  · have e : z = "" := by simpa using hz
    subst e
    exact ⟨by decide, fun c hc => (by cases hc)⟩
  · have e : z = "" := by
      have q := List.mem_of_getElem? hz
      simpa using q
    subst e
    cases hc
def keepF (zs : List Str) : List Str := zs.filter fun z => !decide (V.str z = V.str "")
/-- the groups of a form -/
structure GrOk (gs : List Str) : Prop where
  g3 : gs.length ≤ 3
  gl : ∀ z ∈ gs, (∀ c ∈ z.cps.toList, 97 ≤ c ∧ c ≤ 122) ∧ z.length ≤ 26
  ap : gs.Pairwise fun a b => ∀ c ∈ a.cps.toList, c ∉ b.cps.toList
theorem GI.groups {zs : List Str} (h : GI 26 zs) : GrOk (keepF zs) := by
  refine ⟨Nat.le_trans (List.length_filter_le _ _) (Nat.le_of_eq h.l3), fun z hz => ?_, ?_⟩
  · obtain ⟨a1, a2⟩ := h.ok z (List.mem_filter.mp hz).1
    exact ⟨fun c hc => by have := a2 c hc; omega, a1⟩
  · refine List.Pairwise.filter _ ?_
    obtain ⟨o, ho⟩ := h.own
    rw [List.pairwise_iff_getElem]
    intro i j hi hj lt c hc hc2
    have e1 := ho i _ (List.getElem?_eq_getElem hi) c hc
    have e2 := ho j _ (List.getElem?_eq_getElem hj) c hc2
    omega
def abcAll : Str := "abcdefghijklmnopqrstuvwxyz"
theorem abc_at : ∀ i, i < 26 → abcAll.cps.toList[i]? = some (97 + i) := by decide +kernel
def spGroups : Sp := fun vs H Q _ => ∃ (p c : Addr), vs = [.ref p] ∧ Pen H p c ∧ ∀ (gs : List Str) (t : Addr) H', GrOk gs → Kp p c H H' → H' t = some (.tup (gs.map V.str)) → Q (.ref t) H'
theorem sc_groups : FnScope ["pen", "found", "letter", "at", "group"] ["pen"] (fnScope st_law_groups) := fnScope_by (by decide +kernel)
section
variable {P : Program} {w : World} {K : PySem.W.Frag} {mg : Str → Option Value} {base : Heap} {f : Addr} {fd : FuncData}
theorem cal_groups (F : C8.Def K mg "_law_groups" st_law_groups f fd) (b : Binds K fd ["pen"] []) (B : BN2 mg) (Cd : Cal P w K mg base 2 "_law_draw" spDraw []) : Cal P w K mg base 3 "_law_groups" spGroups [] := by
  refine cal0 F b .nil sc_groups (fun vs H Q E h => ?_) (fun cdv A outer s H vs Q E hr h => ?_)
  · obtain ⟨p, c, rfl, _⟩ := h
    rfl
  · obtain ⟨p, c, rfl, hP, k⟩ := h
    refine ⟨_, pss_cons (ps_set (i := 1) sc_groups.nd rfl (Or.inl rfl) (pe_lst (pa_cons pe_str (pa_cons pe_str (pa_cons pe_str pa_nil)))))
      (pss_cons (ps_for PassesOwn.never rfl (pi_str pe_str) (pg_name (i := 2) sc_groups.nd rfl (Or.inl rfl))
        (pss_cons (ps_set (i := 3) sc_groups.nd rfl (Or.inl rfl) (pe_c Cd hr (by decide) (by rfl) (pa_cons (pv 0) (pa_cons (pe_ifExp (pt_cmpR op_in_sign (pv 2) pe_str rfl) pe_int pe_int) pa_nil))))
        (pss_one (ps_if (pt_cmpR op_lt (pv 3) pe_int (nomark _)) (pss_one (ps_asg (pe_op op_add_str (pe_ix ix_list (pv 1) (pv 3) (fun _ _ => rfl)) (pv 2)) (pg_sub (pv 1) (pv 3) set_list))) pss_nil))))
      (pss_one (ps_ret (pe_callTy call_tuple_of (by rfl) B.tuple (by decide +kernel) (pa_cons (pe_lc (own := [("group", 4)]) (g := gName 4) (tt := tTest (tOp rNe (tVar 4) (tC (.str "")))) (by rfl) sc_groups.nd (pi_list (pv 1))
        (blkOk_by (own := [("group", 4)]) (N := ["pen", "found", "letter", "at", "group"]) (sc := fnScope st_law_groups) (by decide +kernel)) (fun _ _ _ _ _ => pg_name (i := 4) sc_groups.nd rfl (Or.inl rfl))
        (fun _ _ _ _ _ => pts_one (pt_cmpR op_ne (pv 4) pe_str (nomark _))) (fun _ _ _ _ _ => pv 4)) pa_nil))))), ?_⟩
    refine ⟨(by show 3 ≤ sizeLine; decide), fun q hq => ?_⟩
    have nq : q ≠ p := hP.ne hq
    have nqc : q ≠ c := hP.neC hq
    refine ⟨abcAll, rfl, for_str (x := abcAll) (fun i σ H' => (∃ v2 v3 : Option V, σ = [some (.ref p), some (.ref q), v2, v3, none]) ∧ Kp p c H H' ∧ ∃ zs : List Str, H' q = some (.lst (zs.map V.str)) ∧ GI i zs) ⟨⟨_, _, rfl⟩, (Kp.rfl' hP).new hq, ["", "", ""], upd_same, GI.zero⟩ ?_ ?_⟩
    · rintro i g σ H1 hg ⟨⟨v2, v3, rfl⟩, k1, zs, hL, gi⟩
      have i26 : i < 26 := by
        have q := (List.getElem?_eq_some_iff.mp hg).1
        have e : abcAll.cps.toList.length = 26 := by decide +kernel
        omega
      rw [abc_at i i26] at hg
      obtain rfl := Option.some.inj hg
      have l3 := gi.l3
      refine ⟨_, rfl, _, rfl, _, _, rfl, rfl, _, rfl, ?_⟩
      refine ite2 (fun _ => ⟨p, c, 5, rfl, k1.pen, by decide, by decide, fun d H2 d0 d1 k2 => ?_⟩) (fun _ => ⟨p, c, 13, rfl, k1.pen, by decide, by decide, fun d H2 d0 d1 k2 => ?_⟩)
      all_goals
        have kB := k1.trans k2
        have hL2 := k2.but _ _ nq hL
        obtain ⟨j, rfl⟩ : ∃ j : Nat, d = (j : Int) := ⟨d.toNat, by omega⟩
        refine ⟨_, rfl, _, _, rfl, rfl, _, rfl, ite2 (fun cc => ?_) (fun cc => ?_)⟩
        · have j3 : j < zs.length := by
            have := of_decide_eq_true cc
            omega
          have hz := List.getElem?_eq_getElem j3
          have fit : zs[j].length + (⟨#[97 + i]⟩ : Str).length ≤ sizeLine := by
            have e1 := (gi.ok _ (List.getElem_mem j3)).1
            have e2 : (⟨#[97 + i]⟩ : Str).length = 1 := rfl
            exact Nat.le_trans (show _ ≤ 100 by omega) (by decide)
          refine ⟨_, rfl, _, rfl, q, _, _, .str zs[j], rfl, rfl, SqL.of hL2, atI_nat (by rw [List.getElem?_map, hz]; rfl), _, rfl, zs[j], ⟨#[97 + i]⟩, rfl, rfl, fit, _, rfl, _, rfl, q, _, _, j, rfl, rfl, hL2, ix_nat (by rw [List.length_map]; exact j3), ?_⟩
          refine ⟨⟨_, _, rfl⟩, kB.put hP hq, zs.set j (zs[j] ++ ⟨#[97 + i]⟩), ?_, gi.put hz⟩
          rw [upd_same, List.map_set]
        · exact ⟨⟨_, _, rfl⟩, kB, zs, hL2, gi.grow⟩
    · rintro σ H1 ⟨⟨v2, v3, rfl⟩, k1, zs, hL, gi⟩
      have i26 : abcAll.length = 26 := by decide +kernel
      rw [i26] at gi
      have lz : (zs.map V.str).length = 3 := by rw [List.length_map]; exact gi.l3
      refine ⟨_, rfl, q, rfl, ⟨_, SqL.of hL⟩, fun D hD => ?_⟩
      have D0 : H D = none := k1.free hD
      have nD : D ≠ p := hP.ne D0
      refine lc_list (K := K) (a := q) (xs := zs.map V.str) (fun i H' => Kp p c H1 H' ∧ H' q = some (.lst (zs.map V.str)) ∧ H' D = some (.lst ((keepF (zs.take i)).map V.str))) ⟨(Kp.rfl' k1.pen).new hD, same_new hD _ _ hL, upd_same⟩ (fun i H' _ h => SqL.of h.2.1) ?_ ?_
      · rintro i x H2 hx ⟨k2, hq2, hD2⟩
        have ilt : i < zs.length := by
          have q := (List.getElem?_eq_some_iff.mp hx).1
          rw [List.length_map] at q
          exact q
        obtain rfl : V.str zs[i] = x := by
          rw [List.getElem?_map, List.getElem?_eq_getElem ilt] at hx
          exact Option.some.inj hx
        have more : keepF (zs.take (i + 1)) = keepF (zs.take i) ++ (if (!decide (V.str zs[i] = V.str "")) = true then [zs[i]] else []) := by
          unfold keepF
          rw [List.take_add_one, List.getElem?_eq_getElem ilt]
          show List.filter _ (zs.take i ++ [zs[i]]) = _
          rw [List.filter_append, List.filter_cons, List.filter_nil]
        have nDq : D ≠ q := fun e => by
          rw [e, hL] at hD
          cases hD
        refine ⟨rfl, _, rfl, rfl, _, rfl, ?_⟩
        cases cc : (!decide (V.str zs[i] = V.str "")) with
        | true =>
          refine iteT' rfl ⟨_, rfl, _, hD2, ?_, k2.put k1.pen hD, ?_, ?_⟩
          · rw [List.length_map]
            exact Nat.lt_of_le_of_lt (Nat.le_trans (List.length_filter_le _ _) (show (zs.take i).length ≤ 3 by have l3' := gi.l3; rw [List.length_take, l3']; exact Nat.min_le_right _ _)) (by decide)
          · rw [upd_ne nDq.symm]
            exact hq2
          · rw [upd_same, more, if_pos cc, List.map_append]
            rfl
        | false =>
          refine iteF' rfl ⟨k2, hq2, ?_⟩
          rw [more, if_neg (by rw [cc]; exact Bool.false_ne_true), List.append_nil]
          exact hD2
      · rintro H2 ⟨k2, hq2, hD2⟩
        rw [lz] at hD2
        have e3 : zs.take 3 = zs := List.take_of_length_le (Nat.le_of_eq gi.l3)
        rw [e3] at hD2
        exact ⟨D, _, rfl, .inl ⟨SqL.of hD2, fun t ht => k _ t _ gi.groups ((k1.trans k2).new ht) upd_same⟩⟩
end
/-! ### drawn forms -/
def nForm : List Str := ["pen", "most", "states", "groups", "rows", "column", "state"]
theorem sc_form : FnScope nForm ["pen", "most"] (fnScope st_law_form) := fnScope_by (by decide +kernel)
/-- the block of the outer comprehension -/
def blkForm : Scope := { kind := .function, names := [(".0", .local), ("state", .local), ("tuple", .globalImplicit), ("range", .globalImplicit), ("len", .globalImplicit), ("groups", .cell), ("pen", .cell), ("states", .cell)], isGenerator := false, isCoroutine := false }
theorem call_lenK {X : Cx} (K : PySem.W.Frag) (h : X.K = K := by rfl) : CallR X (.builtin "len") (fun xs H Q => ∃ p ys, xs = [.ref p] ∧ (SqL K H p ys ∨ SqT K H p ys) ∧ Q (.int (ys.length : Nat)) H) := by
  rw [← h]
  exact call_len_seq
theorem call_tupK {X : Cx} (K : PySem.W.Frag) (h : X.K = K := by rfl) : CallR X (.type "tuple") (fun xs H Q => ∃ p ys, xs = [.ref p] ∧ ((SqL K H p ys ∧ ∀ l, H l = none → Q (.ref l) (upd H l (.tup ys))) ∨ (SqT K H p ys ∧ Q (.ref p) H))) := by
  rw [← h]
  exact call_tuple_of
structure GoodI (i : Nat) (gs : List Nat) : Prop where
  eq : gs = (List.range i).filter fun s => decide (s ∈ gs)
  lt : ∀ x ∈ gs, x < i
theorem GoodI.zero : GoodI 0 [] := ⟨rfl, fun x hx => (by cases hx)⟩
theorem GoodI.skip {i : Nat} {gs : List Nat} (h : GoodI i gs) : GoodI (i + 1) gs := by
  refine ⟨?_, fun x hx => Nat.lt_succ_of_lt (h.lt x hx)⟩
  have n : ¬ i ∈ gs := fun z => Nat.lt_irrefl _ (h.lt i z)
  rw [List.range_succ, List.filter_append, List.filter_cons, List.filter_nil, decide_eq_false n, if_neg Bool.false_ne_true, List.append_nil]
  exact h.eq
theorem GoodI.add {i : Nat} {gs : List Nat} (h : GoodI i gs) : GoodI (i + 1) (gs ++ [i]) := by
  refine ⟨?_, fun x hx => ?_⟩
  · have m : i ∈ gs ++ [i] := List.mem_append.mpr (.inr (List.mem_singleton.mpr rfl))
    rw [List.range_succ, List.filter_append, List.filter_cons, List.filter_nil, decide_eq_true m, if_pos rfl]
    refine congrArg (· ++ [i]) ?_
    conv => lhs; rw [h.eq]
    refine List.filter_congr fun s hs => ?_
    have lt := List.mem_range.mp hs
    by_cases c : s ∈ gs
    · rw [decide_eq_true c, decide_eq_true (List.mem_append.mpr (.inl c))]
    · rw [decide_eq_false c, decide_eq_false fun z => (List.mem_append.mp z).elim c fun z2 => by
        rw [List.mem_singleton.mp z2] at lt
        exact Nat.lt_irrefl _ lt]
  · rcases List.mem_append.mp hx with hx | hx
    · exact Nat.lt_succ_of_lt (h.lt x hx)
    · rw [List.mem_singleton.mp hx]
      exact Nat.lt_succ_self i
def spForm : Sp := fun vs H Q _ => ∃ (p c : Addr) (n : Nat), vs = [.ref p, .int n] ∧ Pen H p c ∧ 1 ≤ n ∧ n ≤ 4 ∧ ∀ (f : Fm) (m : Nat) (t : Addr) H', FmOk f m → Kp p c H H' → Tp H' (.ref t) f.d → Q (.ref t) H'
section
variable {P : Program} {w : World} {K : PySem.W.Frag} {mg : Str → Option Value} {base : Heap} {f : Addr} {fd : FuncData}
theorem cal_form (F : C8.Def K mg "_law_form" st_law_form f fd) (b : Binds K fd ["pen", "most"] []) (B : BN2 mg) (Cd : Cal P w K mg base 2 "_law_draw" spDraw []) (Cg : Cal P w K mg base 3 "_law_groups" spGroups []) : Cal P w K mg base 4 "_law_form" spForm [] := by
  refine cal0 F b .nil sc_form (fun vs H Q E h => ?_) (fun cdv A outer s H vs Q E hr h => ?_)
  · obtain ⟨p, c, n, rfl, _⟩ := h
    rfl
  · obtain ⟨p, c, n, rfl, hP, n1, n4, k⟩ := h
    refine ⟨_, pss_cons (ps_asg (pe_tup (pa_cons (pe_op op_add pe_int (pe_c Cd hr (by decide) (by rfl) (pa_cons (pv 0) (pa_cons (pv 1) pa_nil)))) (pa_cons (pe_c Cg hr (by decide) (by rfl) (pa_cons (pv 0) pa_nil)) pa_nil)))
        (pg_tup rfl (pgs_cons (pg_name (i := 2) sc_form.nd rfl (Or.inr rfl)) (pgs_cons (pg_name (i := 3) sc_form.nd rfl (Or.inr rfl)) pgs_nil))))
      (pss_cons (ps_setLc (i := 4) (own := [("state", 6)]) (g := gName 6) (tt := tYes) (by rfl) sc_form.nd rfl rfl (sw_true rfl rfl rfl (by decide +kernel)) (pi_range1 rfl B.range (pa_cons (pv 2) pa_nil))
        (blkOk_by (own := [("state", 6)]) (N := nForm) (sc := fnScope st_law_form) (by decide +kernel)) (fun _ _ _ _ _ => pg_name (i := 6) sc_form.nd rfl (Or.inl rfl)) (fun _ _ _ _ _ => pts_nil)
        (fun _ _ _ _ _ => pe_callTy (call_tupK K) (by rfl) B.tuple (by decide +kernel) (pa_cons (pe_lc (own := [("column", 5)]) (g := gName 5) (tt := tYes) (by rfl) sc_form.nd (pi_range1 rfl B.range (pa_cons (pe_op op_add (pe_callB (call_lenK K) (by rfl) B.len PySem.boot_len (pa_cons (pv 3) pa_nil)) pe_int) pa_nil))
          (blkOk_by (own := [("column", 5)]) (N := nForm) (sc := blkForm) (by decide +kernel)) (fun _ _ _ _ _ => pg_name (i := 5) sc_form.nd rfl (Or.inl rfl)) (fun _ _ _ _ _ => pts_nil)
          (fun _ _ _ _ _ => pe_c Cd hr (by decide) (by rfl) (pa_cons (pv 0) (pa_cons (pv 2) pa_nil)))) pa_nil)))
      (pss_one (ps_ret (pe_tup (pa_cons (pv 3) (pa_cons (pe_callTy call_tuple_of (by rfl) B.tuple (by decide +kernel) (pa_cons (pv 4) pa_nil))
        (pa_cons (pe_callTy call_tuple_of (by rfl) B.tuple (by decide +kernel) (pa_cons (pe_lc (own := [("state", 6)]) (g := gName 6) (tt := tTest (tOp rEq (tCall spDraw [] C8.E0 (tCons (tVar 0) (tCons (tC (.int 2)) tNil))) (tC (.int 0)))) (by rfl) sc_form.nd (pi_range1 rfl B.range (pa_cons (pv 2) pa_nil))
          (blkOk_by (own := [("state", 6)]) (N := nForm) (sc := fnScope st_law_form) (by decide +kernel)) (fun _ _ _ _ _ => pg_name (i := 6) sc_form.nd rfl (Or.inl rfl)) (fun _ _ _ _ _ => pts_one (pt_cmpR op_eq (pe_c Cd hr (by decide) (by rfl) (pa_cons (pv 0) (pa_cons pe_int pa_nil))) pe_int (nomark _)))
          (fun _ _ _ _ _ => pv 6)) pa_nil)) pa_nil))))))), ?_⟩
    refine ⟨_, rfl, _, rfl, p, c, n, rfl, hP, by omega, log_small (by omega) (by omega), fun d H1 d0 d1 k1 => ⟨_, _, rfl, rfl, _, rfl, p, c, rfl, k1.pen, fun gs gt H2 gok k2 hgt => ?_⟩⟩
    obtain ⟨m, hm⟩ : ∃ m : Nat, 1 + d = (m : Int) := ⟨(1 + d).toNat, by omega⟩
    refine ⟨(by show 2 ≤ sizeLine; decide), fun t0 ht0 => ⟨t0, _, rfl, SqT.of upd_same, rfl, .int (m : Int), [.ref gt], (by show [V.int (1 + d), V.ref gt] = [V.int (m : Int), V.ref gt]; rw [hm]), .ref gt, [], rfl, rfl, ?_⟩⟩
    have kA := (k1.trans k2).new (o := .tup [.int (1 + d), .ref gt]) ht0
    have hgA := same_new (o := .tup [.int (1 + d), .ref gt]) ht0 _ _ hgt
    have ngp : gt ≠ p := fun e => by
      obtain ⟨ns, i, j, hp, hc⟩ := k2.pen
      rw [e, hp] at hgt
      cases hgt
    clear hgt ht0
    generalize upd H2 t0 (.tup [.int (1 + d), .ref gt]) = H3 at kA hgA ⊢
    have g3 := gok.g3
    have lg : (gs.map V.str).length = gs.length := List.length_map ..
    refine ⟨_, rfl, m, rfl, by omega, by omega, fun D hD => ?_⟩
    refine lc_range (lo := 0) (n := (m : Int).toNat) (fun i H' => Kp p c H H' ∧ H D = none ∧ H' gt = some (.tup (gs.map V.str)) ∧ ∃ rows : List (List Nat), LAt H' D (rows.map wordD) ∧ rows.length = i ∧ ∀ row ∈ rows, row.length = gs.length + 1 ∧ ∀ x ∈ row, x < m)
      ⟨kA.new hD, kA.free hD, same_new hD _ _ hgA, [], ⟨[], upd_same, .nil⟩, rfl, fun row hr => (by cases hr)⟩ ?_ ?_
    · rintro i H4 hi ⟨k4, D0, hg4, rows, hL, rl, rr⟩
      have i4 : i < 4 := Nat.lt_of_lt_of_le hi (show (m : Int).toNat ≤ 4 by omega)
      refine ⟨rfl, ?_⟩
      refine ⟨_, rfl, gt, _, rfl, .inr (SqT.of hg4), _, _, rfl, rfl, _, rfl, ?_, ?_, fun E hE => ?_⟩
      · omega
      · omega
      have E0 : H E = none := k4.free hE
      have nE : E ≠ p := hP.ne E0
      have nEg : gt ≠ E := ne_of_none hg4 hE
      have nDp : D ≠ p := hP.ne D0
      have nDE : D ≠ E := by
        obtain ⟨us, hu, _⟩ := hL
        exact ne_of_none hu hE
      refine lc_range (lo := 0) (fun j H' => Kp p c H H' ∧ H' gt = some (.tup (gs.map V.str)) ∧ LAt H' D (rows.map wordD) ∧ ∃ ns : List Nat, H' E = some (.lst ((iN ns).map V.int)) ∧ ns.length = j ∧ ∀ x ∈ ns, x < m)
        ⟨k4.new hE, same_new hE _ _ hg4, hL.same (same_new hE), [], upd_same, rfl, fun x hx => (by cases hx)⟩ ?_ ?_
      · rintro j H5 hj ⟨k5, hg5, hL5, ns, hE5, nl, nb⟩
        refine ⟨rfl, _, rfl, _, rfl, p, c, m, rfl, k5.pen, by omega, log_small (by omega) (by omega), fun d5 H6 e0 e1 k6 => ?_⟩
        obtain ⟨x, rfl⟩ : ∃ x : Nat, d5 = (x : Int) := ⟨d5.toNat, by omega⟩
        have hE6 := k6.but _ _ nE hE5
        have hg6 := k6.but _ _ ngp hg5
        have hL6 := hL5.kp nDp k5.pen k6
        refine ⟨_, hE6, ?_, (k5.trans k6).put hP E0, ?_, hL6.put hE6 nDE, ns ++ [x], ?_, ?_, ?_⟩
        · rw [iN_len]
          exact Nat.lt_of_lt_of_le (show ns.length < 10 by omega) (by decide)
        · rw [upd_ne nEg]
          exact hg6
        · rw [upd_same, iN_app]
        · rw [List.length_append, nl]
          rfl
        · intro y hy
          rcases List.mem_append.mp hy with hy | hy
          · exact nb y hy
          · rw [List.mem_singleton.mp hy]
            omega
      · rintro H5 ⟨k5, hg5, hL5, ns, hE5, nl, nb⟩
        refine ⟨E, _, rfl, .inl ⟨SqL.of hE5, fun t ht => ?_⟩⟩
        have s5 := same_new (o := .tup ((iN ns).map V.int)) ht
        obtain ⟨us, hu, au⟩ := hL5.same s5
        refine ⟨us, hu, ?_, (k5.new ht).put hP D0, D0, ?_, rows ++ [ns], ?_, ?_, ?_⟩
        · rw [au.len, List.length_map, rl]
          exact Nat.lt_of_lt_of_le i4 (by decide)
        · have ngD : gt ≠ D := fun e => by
            have q := s5 _ _ hg5
            rw [e, hu] at q
            cases q
          rw [upd_ne ngD]
          exact s5 _ _ hg5
        · rw [List.map_append]
          exact LAt.push hu au (tp_word upd_same)
        · rw [List.length_append, rl]
          rfl
        · intro row hm2
          rcases List.mem_append.mp hm2 with hm2 | hm2
          · exact rr row hm2
          · rw [List.mem_singleton.mp hm2]
            exact ⟨by omega, nb⟩
    · rintro H4 ⟨k4, D0, hg4, rows, hL, rl, rr⟩
      obtain ⟨us, hu, au⟩ := hL
      refine ⟨_, rfl, _, rfl, D, us, rfl, .inl ⟨SqL.of hu, fun rt hrt => ?_⟩⟩
      have s4 := same_new (o := .tup us) hrt
      have k5 := k4.new (o := .tup us) hrt
      have hg5 := s4 _ _ hg4
      have tr5 : Tp (upd H4 rt (.tup us)) (.ref rt) (.tuple (rows.map wordD)) := .tup upd_same (au.mono (Same.tk s4))
      clear hrt hu
      generalize upd H4 rt (.tup us) = H5 at k5 hg5 tr5 ⊢
      refine ⟨_, rfl, m, rfl, by omega, by omega, fun G hG => ?_⟩
      have G0 : H G = none := k5.free hG
      have nG : G ≠ p := hP.ne G0
      have nGg : gt ≠ G := ne_of_none hg5 hG
      refine lc_range (lo := 0) (n := (m : Int).toNat) (fun i H' => Kp p c H H' ∧ H' gt = some (.tup (gs.map V.str)) ∧ Tp H' (.ref rt) (.tuple (rows.map wordD)) ∧ ∃ gd : List Nat, H' G = some (.lst ((iN gd).map V.int)) ∧ GoodI i gd ∧ gd.length ≤ i)
        ⟨k5.new hG, same_new hG _ _ hg5, tr5.mono (tk_new hG), [], upd_same, GoodI.zero, Nat.le_refl _⟩ ?_ ?_
      · rintro i H6 hi ⟨k6, hg6, tr6, gd, hG6, gi, gl⟩
        have i4 : i < 4 := Nat.lt_of_lt_of_le hi (show (m : Int).toNat ≤ 4 by omega)
        refine ⟨rfl, _, rfl, p, c, 2, rfl, k6.pen, by decide, by decide, fun e5 H7 e0 e1 k7 => ⟨rfl, _, rfl, ?_⟩⟩
        have hG7 := k7.but _ _ nG hG6
        have hg7 := k7.but _ _ ngp hg6
        have tr7 := tr6.mono (k7.tk k6.pen)
        have k67 := k6.trans k7
        refine ite2 (fun _ => ⟨_, rfl, _, hG7, ?_, k67.put hP G0, ?_, tr7.mono (tk_lst hG7), gd ++ [i], ?_, gi.add, ?_⟩) (fun _ => ⟨k67, hg7, tr7, gd, hG7, gi.skip, Nat.le_succ_of_le gl⟩)
        · rw [iN_len]
          exact Nat.lt_of_lt_of_le (show gd.length < 10 by omega) (by decide)
        · rw [upd_ne nGg]
          exact hg7
        · rw [upd_same, iN_app]
          show some (HO.lst (_ ++ [V.int (0 + (i : Int))])) = _
          rw [Int.zero_add]
        · rw [List.length_append]
          exact Nat.succ_le_succ gl
      · rintro H6 ⟨k6, hg6, tr6, gd, hG6, gi, gl⟩
        refine ⟨G, _, rfl, .inl ⟨SqL.of hG6, fun u hu => ⟨(by show 3 ≤ sizeLine; decide), fun t ht => ?_⟩⟩⟩
        have s6 := same_new (o := .tup ((iN gd).map V.int)) hu
        have s7 := Same.trans s6 (same_new (o := .tup [.ref gt, .ref rt, .ref u]) ht)
        have tu : Tp (upd (upd H6 u (.tup ((iN gd).map V.int))) t (.tup [.ref gt, .ref rt, .ref u])) (.ref u) (wordD gd) := tp_word (by
          rw [upd_ne (ne_of_none upd_same ht), upd_same])
        have tg : Tp H6 (.ref gt) (.tuple (gs.map .str)) := .tup hg6 (TpAll.map fun z _ => .str z)
        refine k ⟨gs, rows, gd⟩ m t _ ⟨by omega, by omega, g3, rl, rr, gok.gl, gok.ap, gi.eq⟩ ((k6.new hu).new ht) ?_
        exact .tup upd_same (.cons (tg.mono (Same.tk s7)) (.cons (tr6.mono (Same.tk s7)) (.cons tu .nil)))
end

/-! ### powers of small bases -/
theorem sq_halfB (s l : Nat) : s ^ l = (s * s) ^ (l / 2) * s ^ (l % 2) := by
  have e : s * s = s ^ 2 := by rw [Nat.pow_succ, Nat.pow_one]
  rw [e, ← Nat.pow_mul, ← Nat.pow_add, Nat.div_add_mod]
theorem odd_halfB {s l : Nat} (h : l % 2 = 1) : s ^ l = s * (s * s) ^ (l / 2) := by
  have q := sq_halfB s l
  rw [h, Nat.pow_one, Nat.mul_comm] at q
  exact q
theorem even_halfB {s l : Nat} (h : l % 2 = 0) : s ^ l = (s * s) ^ (l / 2) := by
  have q := sq_halfB s l
  rw [h, Nat.pow_zero, Nat.mul_one] at q
  exact q
theorem powB_lt {q m : Nat} (hq : q ≤ 29) (h : m ≤ 30000) : q ^ m < 2 ^ 150001 := by
  have e : q ^ m ≤ 2 ^ (5 * m) := by
    rw [Nat.pow_mul]
    exact Nat.pow_le_pow_left (Nat.le_trans hq (by decide)) m
  exact Nat.lt_of_le_of_lt e (Nat.pow_lt_pow_right (by decide) (by omega))
theorem sqB (q k : Nat) : q ^ 2 ^ k * q ^ 2 ^ k = q ^ 2 ^ (k + 1) := by
  rw [← Nat.pow_add, Nat.pow_succ 2 k, Nat.mul_two]
theorem half_stepB (m k : Nat) : m / 2 ^ k / 2 = m / 2 ^ (k + 1) := by rw [Nat.div_div_eq_div_mul, Nat.pow_succ]
def spPowB : Sp := fun vs H Q _ => ∃ q m : Nat, vs = [.int q, .int m] ∧ 1 ≤ q ∧ q ≤ 29 ∧ m ≤ 30000 ∧ ∀ H', Same H H' → Q (.int (q ^ m : Nat)) H'
theorem sc_powB : FnScope ["base", "many", "power", "square", "left"] ["base", "many"] (fnScope st_power_of_) := fnScope_by (by decide +kernel)
section
variable {P : Program} {w : World} {K : PySem.W.Frag} {mg : Str → Option Value} {base : Heap} {f : Addr} {fd : FuncData}
theorem cal_powB (F : C8.Def K mg "power_of" st_power_of_ f fd) (b : Binds K fd ["base", "many"] []) : Cal P w K mg base 1 "power_of" spPowB [] := by
  refine cal0 F b .nil sc_powB (fun vs H Q E h => ?_) (fun cdv A outer s H vs Q E hr h => ?_)
  · obtain ⟨q, m, rfl, _⟩ := h
    rfl
  · obtain ⟨q0, m, rfl, q1, q4, hm, k⟩ := h
    refine ⟨_, pss_cons (ps_set (i := 2) sc_powB.nd rfl (Or.inl rfl) pe_int)
      (pss_cons (ps_set (i := 3) sc_powB.nd rfl (Or.inl rfl) (pv 0))
      (pss_cons (ps_set (i := 4) sc_powB.nd rfl (Or.inl rfl) (pv 1))
      (pss_cons (ps_while PassesOwn.never (pt_cmpR op_gt (pv 4) pe_int (nomark _))
        (pss_cons (ps_if (pt_truth (pe_op op_odd (pv 4) pe_int) (fun _ => rfl)) (pss_one (ps_set (i := 2) sc_powB.nd rfl (Or.inl rfl) (pe_op op_mulW (pv 2) (pv 3)))) pss_nil)
        (pss_cons (ps_set (i := 3) sc_powB.nd rfl (Or.inl rfl) (pe_op op_mulW (pv 3) (pv 3)))
        (pss_one (ps_set (i := 4) sc_powB.nd rfl (Or.inl rfl) (pe_op op_halfN (pv 4) pe_int))))))
      (pss_one (ps_ret (pv 2)))))), ?_⟩
    refine ⟨_, rfl, _, rfl, while_by (fun σ H' => H' = H ∧ ∃ p k : Nat, σ = [some (.int q0), some (.int m), some (.int p), some (.int (q0 ^ 2 ^ k : Nat)), some (.int (m / 2 ^ k : Nat))] ∧ p * (q0 ^ 2 ^ k) ^ (m / 2 ^ k) = q0 ^ m)
      (fun σ _ => match σ with | [_, _, _, _, some (.int l)] => l.toNat | _ => 0) ⟨rfl, 1, 0, ?_, ?_⟩ ?_ ?_⟩
    · show [some (V.int q0), some (V.int m), some (V.int 1), some (V.int q0), some (V.int m)] = _
      rw [Nat.pow_zero, Nat.div_one, Nat.pow_one]
      rfl
    · rw [Nat.pow_zero, Nat.div_one, Nat.pow_one, Nat.one_mul]
    · rintro σ H1 ⟨rfl, p, k2, rfl, ev⟩
      refine ⟨_, rfl, _, _, rfl, rfl, _, rfl, ite2 (fun c => ?_) (fun c => ?_)⟩
      · have l0 : 0 < m / 2 ^ k2 := by
          have := of_decide_eq_true c
          omega
        have hk : 2 ^ k2 ≤ m := by
          rcases Nat.lt_or_ge m (2 ^ k2) with z | z
          · rw [Nat.div_eq_of_lt z] at l0
            exact absurd l0 (Nat.lt_irrefl 0)
          · exact z
        have sb : q0 ^ 2 ^ k2 < 2 ^ 150001 := powB_lt q4 (Nat.le_trans hk hm)
        have pb : p < 2 ^ 150001 := by
          have h1 : 1 ≤ (q0 ^ 2 ^ k2) ^ (m / 2 ^ k2) := Nat.pow_pos (Nat.pow_pos q1)
          have h2 : p ≤ p * (q0 ^ 2 ^ k2) ^ (m / 2 ^ k2) := Nat.le_mul_of_pos_right p h1
          rw [ev] at h2
          exact Nat.lt_of_le_of_lt h2 (powB_lt q4 hm)
        have wm : ∀ {a b : Nat}, a < 2 ^ 150001 → b < 2 ^ 150001 → CMulW (a : Int) (b : Int) := fun ha hb => wide_mul (a := 150001) (b := 150001) (by rw [Int.natAbs_natCast]; exact ha) (by rw [Int.natAbs_natCast]; exact hb) (by decide) (by decide) (by decide)
        have dec : m / 2 ^ (k2 + 1) < m / 2 ^ k2 := by
          rw [← half_stepB]
          exact Nat.div_lt_self l0 (by decide)
        have back : ∀ p2 : Nat, p2 * (q0 ^ 2 ^ (k2 + 1)) ^ (m / 2 ^ (k2 + 1)) = q0 ^ m →
            (H1 = H1 ∧ ∃ p k : Nat, ([some (.int q0), some (.int m), some (.int p2), some (.int (((q0 ^ 2 ^ k2 : Nat) : Int) * ((q0 ^ 2 ^ k2 : Nat) : Int))), some (.int ((m / 2 ^ k2 / 2 : Nat) : Int))] : L2.St) = [some (.int q0), some (.int m), some (.int p), some (.int (q0 ^ 2 ^ k : Nat)), some (.int (m / 2 ^ k : Nat))] ∧ p * (q0 ^ 2 ^ k) ^ (m / 2 ^ k) = q0 ^ m) := fun p2 h2 => by
          refine ⟨rfl, p2, k2 + 1, ?_, h2⟩
          rw [← Int.natCast_mul, sqB, half_stepB]
        refine ⟨_, rfl, _, rfl, rfl, _, rfl, ite2 (fun c2 => ?_) (fun c2 => ?_)⟩
        · have od : m / 2 ^ k2 % 2 = 1 := by
            have h2 : ((m / 2 ^ k2 % 2 : Nat) : Int) ≠ 0 := by simpa using c2
            omega
          refine ⟨_, rfl, _, rfl, _, _, rfl, rfl, wm pb sb, _, rfl, _, rfl, _, _, rfl, rfl, wm sb sb, _, rfl, _, rfl, rfl, ?_, ?_⟩
          · have q := back (p * q0 ^ 2 ^ k2) (by rw [← sqB, ← half_stepB, Nat.mul_assoc, ← odd_halfB od]; exact ev)
            rw [Int.natCast_mul] at q
            exact q
          · show (((m / 2 ^ k2 / 2 : Nat) : Int)).toNat < (((m / 2 ^ k2 : Nat) : Int)).toNat
            rw [Int.toNat_natCast, Int.toNat_natCast, half_stepB]
            exact dec
        · have ev2 : m / 2 ^ k2 % 2 = 0 := by
            have h2 : ((m / 2 ^ k2 % 2 : Nat) : Int) = 0 := by simpa using c2
            omega
          refine ⟨_, rfl, _, rfl, _, _, rfl, rfl, wm sb sb, _, rfl, _, rfl, rfl, ?_, ?_⟩
          · exact back p (by rw [← sqB, ← half_stepB, ← even_halfB ev2]; exact ev)
          · show (((m / 2 ^ k2 / 2 : Nat) : Int)).toNat < (((m / 2 ^ k2 : Nat) : Int)).toNat
            rw [Int.toNat_natCast, Int.toNat_natCast, half_stepB]
            exact dec
      · have l0 : m / 2 ^ k2 = 0 := by
          rcases Nat.eq_zero_or_pos (m / 2 ^ k2) with z | z
          · exact z
          · exact absurd (decide_eq_true (by omega)) c
        rw [l0, Nat.pow_zero, Nat.mul_one] at ev
        refine ⟨_, rfl, ?_⟩
        rw [ev]
        exact k _ (Same.refl _)
    · rintro σ H1 Q1 Q2 hq ⟨v, a, i, j, e1, e2, k3, ek, q⟩
      exact ⟨v, a, i, j, e1, e2, k3, ek, hq _ _ q⟩
end

/-! ### forms and writers -/
theorem small_mul {a b : Nat} (ha : a < 2 ^ 40) (hb : b < 2 ^ 40) : CMulW (a : Int) (b : Int) := wide_mul (a := 40) (b := 40) (by rw [Int.natAbs_natCast]; exact ha) (by rw [Int.natAbs_natCast]; exact hb) (by decide) (by decide) (by decide)
def fitB (m B : Nat) : Bool := decide (((m ^ (m * B) : Nat) : Int) ≤ 1000)
def spFits : Sp := fun vs H Q _ => ∃ (x y : V) (f : Fm) (W : Wr) (m kk S B : Nat), vs = [x, y] ∧ Tp H x W.d ∧ WOk kk S B W ∧ B ≤ 3 ∧ Tp H y f.d ∧ FmOk f m ∧ ∀ H', Same H H' → Q (.bl (fitB m B)) H'
theorem sc_fits : FnScope ["writer", "form", "many"] ["writer", "form"] (fnScope st_form_fits_) := fnScope_by (by decide +kernel)
def nFit : List Str := ["writer", "form", "found", "buffer", "row"]
theorem sc_lfits : FnScope nFit ["writer", "form"] (fnScope st_law_does_fit) := fnScope_by (by decide +kernel)
theorem Tp.w_begins {H : Hp} {v : V} {W : Wr} (h : Tp H v W.d) : ∃ (wa ba : Addr) (bx xs : List V), v = .ref wa ∧ H wa = some (.tup xs) ∧ xs[0]? = some (.ref ba) ∧ H ba = some (.tup bx) ∧ bx.length = W.begins.length := by
  obtain ⟨a, xs, rfl, h1, h2⟩ := h.tup_inv
  cases h2 with
  | @cons vb x2 _ _ tb h2 =>
  obtain ⟨ba, bx, rfl, b1, b2⟩ := tb.tup_inv
  exact ⟨a, ba, bx, _, rfl, h1, rfl, b1, by rw [b2.len, List.length_map]⟩
theorem Tp.f_rows {H : Hp} {v : V} {f : Fm} (h : Tp H v f.d) : ∃ (a ra go : Addr) (vg : V) (rx : List V), v = .ref a ∧ H a = some (.tup [vg, .ref ra, .ref go]) ∧ H ra = some (.tup rx) ∧ TpAll H rx (f.rows.map wordD) ∧ rx.length = f.rows.length ∧ Tp H vg (.tuple (f.groups.map .str)) ∧ H go = some (.tup ((iN f.good).map V.int)) := by
  obtain ⟨a, vg, vr, go, rfl, h1, tg, tr, hgo⟩ := h.f_inv
  obtain ⟨ra, rx, rfl, r1, r2⟩ := tr.tup_inv
  exact ⟨a, ra, go, vg, rx, rfl, h1, r1, r2, by rw [r2.len, List.length_map], tg, hgo⟩
theorem placeF_mem : ∀ (gs : List Str) (c : Nat) (h : placeF gs c < gs.length), c ∈ gs[placeF gs c].cps.toList
  | [], c, h => by cases h
  | g :: r, c, h => by
    by_cases hc : c ∈ g.cps.toList
    · have e : placeF (g :: r) c = 0 := by rw [placeF_cons, if_pos hc]
      simp only [e]
      exact hc
    · have e : placeF (g :: r) c = placeF r c + 1 := by rw [placeF_cons, if_neg hc]
      rw [e] at h
      simp only [e]
      exact placeF_mem r c (Nat.lt_of_succ_lt_succ h)
theorem placeF_first : ∀ (gs : List Str) (c i : Nat) (h : i < gs.length), c ∈ gs[i].cps.toList → placeF gs c ≤ i
  | [], c, i, h, _ => by cases h
  | g :: r, c, i, h, hc => by
    rw [placeF_cons]
    split
    · exact Nat.zero_le _
    · rename_i n
      cases i with
      | zero => exact absurd hc n
      | succ i => exact Nat.succ_le_succ (placeF_first r c i (Nat.lt_of_succ_lt_succ h) hc)
def spRead : Sp := fun vs H Q _ => ∃ (x : V) (f : Fm) (m s : Nat) (z : Str), vs = [x, .int s, .str z] ∧ Tp H x f.d ∧ FmOk f m ∧ s < m ∧ z.length ≤ 30000 ∧ ∀ H', Same H H' → Q (.int (readF f s z.cps.toList : Nat)) H'
def nRead : List Str := ["form", "state", "text", "letter", "place", "at", "group"]
theorem sc_read : FnScope nRead ["form", "state", "text"] (fnScope st_law_read) := fnScope_by (by decide +kernel)
theorem sc_leffect : FnScope ["form", "text", "state"] ["form", "text"] (fnScope st_law_effect) := fnScope_by (by decide +kernel)
section
variable {P : Program} {w : World} {K : PySem.W.Frag} {mg : Str → Option Value} {base : Heap} {f : Addr} {fd : FuncData}
theorem cal_fits (F : C8.Def K mg "form_fits" st_form_fits_ f fd) (b : Binds K fd ["writer", "form"] []) (B : BN2 mg) {tk : Tok} (eb : mg "MOST_EFFECTS" = some (.int 1000 tk)) (Cp : Cal P w K mg base 1 "power_of" spPowB []) : Cal P w K mg base 2 "form_fits" spFits [] := by
  refine cal0 F b .nil sc_fits (fun vs H Q E h => ?_) (fun cdv A outer s H vs Q E hr h => ?_)
  · obtain ⟨x, y, f, W, m, kk, S, B, rfl, _⟩ := h
    rfl
  · obtain ⟨x, y, fm, W, m, kk, S, Bn, rfl, hx, hW, b3, hy, hf, k⟩ := h
    obtain ⟨wa, ba, bx, wx, rfl, w1, w2, w3, w4⟩ := hx.w_begins
    obtain ⟨a, ra, go, vg, rx, rfl, h1, r1, r2, rl, _, _⟩ := hy.f_rows
    have lr : rx.length = m := rl.trans hf.rl
    have lb : bx.length = Bn := w4.trans hW.b1
    have m4 := hf.m4
    refine ⟨_, pss_cons (ps_set (i := 2) sc_fits.nd rfl (Or.inl rfl) (pe_callB call_len_seq (by rfl) B.len PySem.boot_len (pa_cons (pe_ix ix_tup (pv 1) pe_int (fun _ _ => rfl)) pa_nil)))
      (pss_one (ps_ret (pe_cmpR op_le (pe_c Cp hr (by decide) (by rfl) (pa_cons (pv 2) (pa_cons (pe_op op_mulW (pv 2) (pe_callB call_len_seq (by rfl) B.len PySem.boot_len (pa_cons (pe_ix ix_tup (pv 0) pe_int (fun _ _ => rfl)) pa_nil))) pa_nil))) (pe_glob (v := .int 1000) rfl eb ⟨_, rfl⟩) (nomark _)))), ?_⟩
    refine ⟨_, rfl, a, _, _, _, rfl, rfl, SqT.of h1, atI_nat (j := 1) rfl, ra, _, rfl, .inr (SqT.of r1), ?_⟩
    rw [lr]
    refine ⟨_, rfl, _, rfl, _, rfl, wa, _, _, _, rfl, rfl, SqT.of w1, atI_nat (j := 0) w2, ba, _, rfl, .inr (SqT.of w3), _, _, rfl, rfl, ?_, m, m * Bn, ?_, hf.m1, by omega, ?_, fun H1 s1 => ?_⟩
    · rw [lb]
      exact small_mul (Nat.lt_of_le_of_lt m4 (by decide)) (Nat.lt_of_le_of_lt b3 (by decide))
    · rw [lb]
      show [V.int (m : Int), V.int ((m : Int) * (Bn : Int))] = _
      rw [Int.natCast_mul]
    · exact Nat.le_trans (Nat.mul_le_mul m4 b3) (by decide)
    · exact ⟨_, _, rfl, rfl, k H1 s1⟩
theorem cal_lfits (F : C8.Def K mg "_law_does_fit" st_law_does_fit f fd) (b : Binds K fd ["writer", "form"] []) (B : BN2 mg) : Cal P w K mg base 1 "_law_does_fit" spFits [] := by
  refine cal0 F b .nil sc_lfits (fun vs H Q E h => ?_) (fun cdv A outer s H vs Q E hr h => ?_)
  · obtain ⟨x, y, f, W, m, kk, S, B, rfl, _⟩ := h
    rfl
  · obtain ⟨x, y, fm, W, m, kk, S, Bn, rfl, hx, hW, b3, hy, hf, k⟩ := h
    obtain ⟨wa, ba, bx, wx, rfl, w1, w2, w3, w4⟩ := hx.w_begins
    obtain ⟨a, ra, go, vg, rx, rfl, h1, r1, r2, rl, _, _⟩ := hy.f_rows
    have lr : rx.length = m := rl.trans hf.rl
    have lb : bx.length = Bn := w4.trans hW.b1
    have m4 := hf.m4
    have m1 := hf.m1
    refine ⟨_, pss_cons (ps_set (i := 2) sc_lfits.nd rfl (Or.inl rfl) pe_int)
      (pss_cons (ps_for PassesOwn.never rfl (pi_tupK K (pe_ix (ix_tupK K) (pv 0) pe_int (fun _ _ => rfl))) (pg_name (i := 3) sc_lfits.nd rfl (Or.inl rfl))
        (pss_one (ps_for PassesOwn.never rfl (pi_tupK K (pe_ix (ix_tupK K) (pv 1) pe_int (fun _ _ => rfl))) (pg_name (i := 4) sc_lfits.nd rfl (Or.inl rfl))
          (pss_one (ps_set (i := 2) sc_lfits.nd rfl (Or.inl rfl) (pe_op op_mulW (pv 2) (pe_callB call_len_seq (by rfl) B.len PySem.boot_len (pa_cons (pe_ix ix_tup (pv 1) pe_int (fun _ _ => rfl)) pa_nil))))))))
      (pss_one (ps_ret (pe_cmpR op_le (pv 2) pe_int (nomark _))))), ?_⟩
    have big : ∀ e, e ≤ 12 → m ^ e < 2 ^ 40 := fun e he =>
      Nat.lt_of_le_of_lt (Nat.le_trans (Nat.pow_le_pow_left m4 e) (Nat.pow_le_pow_right (by decide) he)) (by decide)
    have fit : m * Bn ≤ 12 := Nat.mul_le_mul m4 b3
    refine ⟨_, rfl, wa, _, _, _, rfl, rfl, SqT.of w1, atI_nat (j := 0) w2, ba, rfl, ⟨_, SqT.of w3⟩, for_tup (K := K) (a := ba) (xs := bx) (fun i σ H' => Same H H' ∧ ∃ v3 v4 : Option V, σ = [some (.ref wa), some (.ref a), some (.int (m ^ (m * i) : Nat)), v3, v4]) ⟨Same.refl _, _, _, rfl⟩ (fun i σ H' _ h => SqT.of (h.1 _ _ w3)) ?_ ?_⟩
    · rintro i x σ H1 hi ⟨s1, v3, v4, rfl⟩
      have ib : i < Bn := by
        have q := (List.getElem?_eq_some_iff.mp hi).1
        omega
      refine ⟨_, rfl, a, _, _, _, rfl, rfl, SqT.of (s1 _ _ h1), atI_nat (j := 1) rfl, ra, rfl, ⟨_, SqT.of (s1 _ _ r1)⟩, for_tup (K := K) (a := ra) (xs := rx) (fun j σ H' => Same H H' ∧ ∃ v4 : Option V, σ = [some (.ref wa), some (.ref a), some (.int (m ^ (m * i + j) : Nat)), some x, v4]) ⟨s1, _, rfl⟩ (fun j σ H' _ h => SqT.of (h.1 _ _ r1)) ?_ ?_⟩
      · rintro j y σ H2 hj ⟨s2, v4', rfl⟩
        have jm : j < m := by
          have q := (List.getElem?_eq_some_iff.mp hj).1
          omega
        have up : m * (i + 1) ≤ m * Bn := Nat.mul_le_mul_left m ib
        rw [Nat.mul_succ] at up
        refine ⟨_, rfl, _, rfl, a, _, _, _, rfl, rfl, SqT.of (s2 _ _ h1), atI_nat (j := 1) rfl, ra, _, rfl, .inr (SqT.of (s2 _ _ r1)), _, _, rfl, rfl, ?_, s2, some y, ?_⟩
        · rw [lr]
          exact small_mul (big _ (by omega)) (Nat.lt_of_le_of_lt m4 (by decide))
        · rw [lr]
          have e : ((m ^ (m * i + j) : Nat) : Int) * (m : Int) = ((m ^ (m * i + (j + 1)) : Nat) : Int) := by
            rw [← Int.natCast_mul, ← Nat.pow_succ]
            rfl
          show [some (V.ref wa), some (V.ref a), some (V.int (((m ^ (m * i + j) : Nat) : Int) * (m : Int))), some x, some y] = _
          rw [e]
      · rintro σ H2 ⟨s2, v4', rfl⟩
        rw [lr]
        exact ⟨s2, _, _, by rw [Nat.mul_succ]⟩
    · rintro σ H1 ⟨s1, v3, v4, rfl⟩
      rw [lb]
      exact ⟨_, rfl, _, _, rfl, rfl, k H1 s1⟩
theorem cal_read (F : C8.Def K mg "_law_read" st_law_read f fd) (b : Binds K fd ["form", "state", "text"] []) (B : BN2 mg) (Be : mg "enumerate" = none) : Cal P w K mg base 1 "_law_read" spRead [] := by
  refine cal0 F b .nil sc_read (fun vs H Q E h => ?_) (fun cdv A outer s H vs Q E hr h => ?_)
  · obtain ⟨x, f, m, s, z, rfl, _⟩ := h
    rfl
  · obtain ⟨x, fm, m, s0, z, rfl, hx, hf, hs, hz, k⟩ := h
    obtain ⟨a, ra, go, vg, rx, rfl, h1, r1, r2, rl, tg, _⟩ := hx.f_rows
    obtain ⟨ga, gx, rfl, g1, g2⟩ := tg.tup_inv
    obtain rfl := tpAll_strs g2
    have lg : (fm.groups.map V.str).length = fm.groups.length := List.length_map ..
    refine ⟨_, pss_cons (ps_for PassesOwn.never rfl (pi_str (pv 2)) (pg_name (i := 3) sc_read.nd rfl (Or.inl rfl))
        (pss_cons (ps_set (i := 4) sc_read.nd rfl (Or.inl rfl) (pe_callB call_len_seq (by rfl) B.len PySem.boot_len (pa_cons (pe_ix ix_tup (pv 0) pe_int (fun _ _ => rfl)) pa_nil)))
        (pss_cons (ps_for PassesOwn.never rfl (ET.pi_enumT rfl Be (pa_cons (pe_ix ix_tup (pv 0) pe_int (fun _ _ => rfl)) pa_nil)) (pg_tup rfl (pgs_cons (pg_name (i := 5) sc_read.nd rfl (Or.inl rfl)) (pgs_cons (pg_name (i := 6) sc_read.nd rfl (Or.inl rfl)) pgs_nil)))
          (pss_one (ps_if (pt_cmpR op_in_sign (pv 3) (pv 6) rfl) (pss_one (ps_set (i := 4) sc_read.nd rfl (Or.inl rfl) (pv 5))) pss_nil)))
        (pss_one (ps_set (i := 1) sc_read.nd rfl (Or.inl rfl) (pe_ix ix_tup (pe_ix ix_tup (pe_ix ix_tup (pv 0) pe_int (fun _ _ => rfl)) (pv 1) (fun _ _ => rfl)) (pv 4) (fun _ _ => rfl)))))))
      (pss_one (ps_ret (pv 1))), ?_⟩
    refine ⟨_, rfl, z, rfl, for_str (x := z) (fun i σ H' => Same H H' ∧ ∃ v3 v4 v5 v6 : Option V, σ = [some (.ref a), some (.int (readF fm s0 (z.cps.toList.take i) : Nat)), some (.str z), v3, v4, v5, v6]) ⟨Same.refl _, _, _, _, _, rfl⟩ ?_ ?_⟩
    · rintro i c σ H1 hc ⟨s1, v3, v4, v5, v6, rfl⟩
      refine ⟨_, rfl, a, _, _, _, rfl, rfl, SqT.of (s1 _ _ h1), atI_nat (j := 0) rfl, ga, _, rfl, .inr (SqT.of (s1 _ _ g1)), ?_⟩
      refine ⟨_, rfl, a, _, _, _, rfl, rfl, SqT.of (s1 _ _ h1), atI_nat (j := 0) rfl, ga, _, rfl, SqT.of (s1 _ _ g1), for_enumT (K := K) (a := ga) (xs := fm.groups.map V.str) (fun j σ H' => Same H H' ∧ ∃ (pl : Nat) (v5 v6 : Option V), σ = [some (.ref a), some (.int (readF fm s0 (z.cps.toList.take i) : Nat)), some (.str z), some (.str ⟨#[c]⟩), some (.int pl), v5, v6] ∧
          ((pl = placeF fm.groups c ∧ placeF fm.groups c < j) ∨ (pl = fm.groups.length ∧ j ≤ placeF fm.groups c))) ⟨s1, fm.groups.length, v5, v6, ?_, .inr ⟨rfl, Nat.zero_le _⟩⟩ (fun j σ H' h => SqT.of (h.1 _ _ g1)) ?_ ?_⟩
      · rw [lg]
        rfl
      · rintro j x T σ H2 hx2 ⟨s2, pl, w5, w6, rfl, hp⟩ hT
        have jlt : j < fm.groups.length := by
          have q := (List.getElem?_eq_some_iff.mp hx2).1
          omega
        obtain rfl : V.str fm.groups[j] = x := by
          rw [List.getElem?_map, List.getElem?_eq_getElem jlt] at hx2
          exact Option.some.inj hx2
        have s3 := Same.trans s2 (same_new (o := .tup [.int (j : Nat), .str fm.groups[j]]) hT)
        refine ⟨T, _, rfl, SqT.of upd_same, rfl, _, _, rfl, _, _, rfl, rfl, ?_⟩
        refine ⟨_, rfl, _, rfl, c, fm.groups[j], rfl, rfl, _, rfl, ?_⟩
        by_cases hcj : c ∈ fm.groups[j].cps.toList
        · refine iteT' (decide_eq_true hcj) ⟨_, rfl, s3, j, _, _, rfl, .inl ?_⟩
          have up := placeF_first _ c j jlt hcj
          rcases hp with ⟨_, lt⟩ | ⟨_, le⟩
          · have hm := placeF_mem fm.groups c (Nat.lt_trans lt jlt)
            have ap := (List.pairwise_iff_getElem.mp hf.ap) _ j (Nat.lt_trans lt jlt) jlt lt c hm
            exact absurd hcj ap
          · exact ⟨by omega, by omega⟩
        · refine iteF' (decide_eq_false hcj) ⟨s3, pl, _, _, rfl, ?_⟩
          rcases hp with ⟨e, lt⟩ | ⟨e, le⟩
          · exact .inl ⟨e, Nat.lt_succ_of_lt lt⟩
          · refine .inr ⟨e, ?_⟩
            rcases Nat.lt_or_eq_of_le le with lt | eq
            · exact lt
            · refine absurd ?_ hcj
              have hm := placeF_mem fm.groups c (by omega)
              simp only [← eq] at hm
              exact hm
      · rintro σ H2 ⟨s2, pl, w5, w6, rfl, hp⟩
        rw [lg] at hp
        have ep : pl = placeF fm.groups c := by
          have := placeF_le fm.groups c
          rcases hp with ⟨e, _⟩ | ⟨e, le⟩
          · exact e
          · omega
        subst ep
        have sl := read_lt hf (z.cps.toList.take i) s0 hs
        obtain ⟨row, x, n1, n2, n3, n4⟩ := next_at hf sl c
        obtain ⟨rv, q1, q2⟩ := r2.at n1
        obtain ⟨rwa, rfl, q3⟩ := q2.word_inv
        refine ⟨_, rfl, a, _, _, _, rfl, rfl, SqT.of (s2 _ _ h1), atI_nat (j := 1) rfl, _, rfl, ra, rx, _, _, rfl, rfl, SqT.of (s2 _ _ r1), atI_nat q1, _, rfl, rwa, _, _, _, rfl, rfl, SqT.of (s2 _ _ q3), atI_nat (iN_at n2), s2, some (.str ⟨#[c]⟩), some (.int (placeF fm.groups c : Nat)), w5, w6, ?_⟩
        rw [read_more fm s0 hc, n3]
        rfl
    · rintro σ H1 ⟨s1, v3, v4, v5, v6, rfl⟩
      rw [List.take_of_length_le (by rw [Array.length_toList]; exact Nat.le_refl _)]
      exact ⟨_, rfl, k H1 s1⟩
theorem cal_leffect (F : C8.Def K mg "_law_effect" st_law_effect f fd) (b : Binds K fd ["form", "text"] []) (B : BN2 mg) (Cr : Cal P w K mg base 1 "_law_read" spRead []) : Cal P w K mg base 2 "_law_effect" spEffect [] := by
  refine cal0 F b .nil sc_leffect (fun vs H Q E h => ?_) (fun cdv A outer s H vs Q E hr h => ?_)
  · obtain ⟨x, f, m, z, rfl, _⟩ := h
    rfl
  · obtain ⟨x, fm, m, z, rfl, hx, hf, hz, k⟩ := h
    have hx0 := hx
    obtain ⟨a, ra, go, vg, rx, rfl, h1, r1, r2, rl, tg, _⟩ := hx.f_rows
    have lr : rx.length = m := rl.trans hf.rl
    have m4 := hf.m4
    refine ⟨_, pss_one (ps_ret (pe_callTy call_tuple_of (by rfl) B.tuple (by decide +kernel) (pa_cons (pe_lc (own := [("state", 2)]) (g := gName 2) (tt := tYes) (by rfl) sc_leffect.nd (pi_range1 rfl B.range (pa_cons (pe_callB call_len_seq (by rfl) B.len PySem.boot_len (pa_cons (pe_ix ix_tup (pv 0) pe_int (fun _ _ => rfl)) pa_nil)) pa_nil))
        (blkOk_by (own := [("state", 2)]) (N := ["form", "text", "state"]) (sc := fnScope st_law_effect) (by decide +kernel)) (fun _ _ _ _ _ => pg_name (i := 2) sc_leffect.nd rfl (Or.inl rfl)) (fun _ _ _ _ _ => pts_nil)
        (fun _ _ _ _ _ => pe_c Cr hr (by decide) (by rfl) (pa_cons (pv 0) (pa_cons (pv 2) (pa_cons (pv 1) pa_nil))))) pa_nil))), ?_⟩
    refine ⟨_, rfl, a, _, _, _, rfl, rfl, SqT.of h1, atI_nat (j := 1) rfl, ra, _, rfl, .inr (SqT.of r1), ?_⟩
    rw [lr]
    refine ⟨_, rfl, by omega, by omega, fun D hD => ?_⟩
    refine lc_range (lo := 0) (n := (m : Int).toNat) (fun i H' => Same H H' ∧ H' D = some (.lst ((iN ((List.range i).map fun s => readF fm s z.cps.toList)).map V.int))) ⟨same_new hD, upd_same⟩ ?_ ?_
    · rintro i H1 hi ⟨s1, hL⟩
      have im : i < m := hi
      refine ⟨rfl, _, rfl, _, rfl, _, rfl, .ref a, fm, m, i, z, ?_, hx0.mono (Same.tk s1), hf, im, hz, fun H2 s2 => ⟨_, s2 _ _ hL, ?_, Same.put (Same.trans s1 s2) hD, ?_⟩⟩
      · show [V.ref a, V.int (0 + (i : Int)), V.str z] = _
        rw [Int.zero_add]
      · rw [iN_len, List.length_map, List.length_range]
        exact Nat.lt_of_lt_of_le (show i < 4 by omega) (by decide)
      · rw [upd_same, List.range_succ, List.map_append, List.map_cons, List.map_nil, iN_app]
    · rintro H1 ⟨s1, hL⟩
      have e : (List.range m).map (fun s => readF fm s z.cps.toList) = effF fm z.cps.toList := by
        unfold effF
        rw [hf.rl]
      have hL' : H1 D = some (.lst ((iN (effF fm z.cps.toList)).map V.int)) := by
        rw [← e]
        exact hL
      exact ⟨D, _, rfl, .inl ⟨SqL.of hL', fun u hu => k _ _ (Same.trans s1 (same_new hu)) (tp_word upd_same)⟩⟩
end

/-! ### forms may be shown and compared -/
theorem shapF {k n : Nat} {d : PyData} (h : Neat k n d) (hk : k ≤ 60) : SeqAt.shaped d = true := by
  unfold SeqAt.shaped
  have q := h.dep
  rw [h.lay, decide_eq_true (show d.depth ≤ 64 by omega)]
  rfl
theorem neat_word {ns : List Nat} (h : ∀ x ∈ ns, x < 1000000) : Neat 1 (ns.length * 41) (wordD ns) := by
  have q : NeatAll 0 ((iN ns).length * (40 + 1)) ((iN ns).map PyData.int) := neatAll_map fun x hx => neat_int (by
    unfold iN at hx
    obtain ⟨y, hy, rfl⟩ := List.mem_map.mp hx
    have := h y hy
    show ((y : Nat) : Int).natAbs < 10 ^ 9
    rw [Int.natAbs_natCast]
    exact Nat.lt_trans this (by decide))
  have e : (iN ns).length = ns.length := by
    unfold iN
    rw [List.length_map]
  rw [e] at q
  exact q.tup
theorem good_lt {f : Fm} {m : Nat} (h : FmOk f m) : (∀ x ∈ f.good, x < m) ∧ f.good.length ≤ m := by
  refine ⟨fun x hx => ?_, ?_⟩
  · rw [h.gd] at hx
    exact List.mem_range.mp (List.mem_filter.mp hx).1
  · rw [h.gd]
    exact Nat.le_trans (List.length_filter_le _ _) (Nat.le_of_eq List.length_range)
theorem neat_f {f : Fm} {m : Nat} (h : FmOk f m) : Neat 3 2000 f.d := by
  have m4 := h.m4
  have g3 := h.g3
  have a1 : Neat 2 100 (.tuple (f.groups.map .str)) := by
    have q : NeatAll 0 (f.groups.length * (26 + 1)) (f.groups.map PyData.str) := neatAll_map fun z hz => (neat_str (low_strOk (h.gl z hz).1)).le (Nat.le_refl _) (h.gl z hz).2
    exact q.tup.le (by decide) (by omega)
  have a2 : Neat 2 700 (.tuple (f.rows.map wordD)) := by
    have q : NeatAll 1 (f.rows.length * (164 + 1)) (f.rows.map wordD) := neatAll_map fun row hr => by
      obtain ⟨l1, l2⟩ := h.rr row hr
      exact (neat_word fun x hx => Nat.lt_of_lt_of_le (l2 x hx) (Nat.le_trans m4 (by decide))).le (Nat.le_refl _) (by omega)
    have rl := h.rl
    exact q.tup.le (by decide) (by omega)
  have a3 : Neat 2 170 (wordD f.good) := by
    obtain ⟨l1, l2⟩ := good_lt h
    exact (neat_word fun x hx => Nat.lt_of_lt_of_le (l1 x hx) (Nat.le_trans m4 (by decide))).le (by decide) (by omega)
  exact (NeatAll.cons a1 (NeatAll.cons a2 (NeatAll.cons a3 neatAll_nil))).tup.le (by decide) (by decide)
theorem neat_eff {f : Fm} {m : Nat} (h : FmOk f m) (cs : List Nat) : Neat 1 200 (wordD (effF f cs)) := by
  have m4 := h.m4
  have e := eff_len f cs
  have rl := h.rl
  exact (neat_word fun x hx => Nat.lt_of_lt_of_le (eff_lt h cs x hx) (Nat.le_trans m4 (by decide))).le (Nat.le_refl _) (by omega)
theorem eqvI : ∀ l : List Int, PyData.eqvAll (l.map PyData.int) (l.map PyData.int) = true
  | [] => by simp only [List.map_nil, PyData.eqvAll]
  | n :: r => by simp only [List.map_cons, PyData.eqvAll, PyData.eqv, eqvI r, beq_self_eq_true, Bool.and_self]
theorem eqvS : ∀ l : List Str, PyData.eqvAll (l.map PyData.str) (l.map PyData.str) = true
  | [] => by simp only [List.map_nil, PyData.eqvAll]
  | n :: r => by simp only [List.map_cons, PyData.eqvAll, PyData.eqv, eqvS r, beq_self_eq_true, Bool.and_self]
theorem eqvW (l : List Nat) : PyData.eqv (wordD l) (wordD l) = true := by
  unfold wordD
  simp only [PyData.eqv, eqvI]
theorem eqvR : ∀ l : List (List Nat), PyData.eqvAll (l.map wordD) (l.map wordD) = true
  | [] => by simp only [List.map_nil, PyData.eqvAll]
  | n :: r => by simp only [List.map_cons, PyData.eqvAll, eqvW, eqvR r, Bool.and_self]
theorem eqvF (f : Fm) : PyData.eqv f.d f.d = true := by
  unfold Fm.d
  simp only [PyData.eqv, PyData.eqvAll, eqvS, eqvR, eqvW, Bool.and_self]
theorem acc_opp {f : Fm} {m : Nat} (h : FmOk f m) (cs : List Nat) : accF (oppF f) cs = !accF f cs := by
  have e : readF (oppF f) 0 cs = readF f 0 cs := rfl
  unfold accF
  rw [e]
  exact opp_mem h (read_lt h cs 0 (Nat.lt_of_lt_of_le Nat.zero_lt_one h.m1))
theorem sameF (z : Str) : (!decide (V.str z = V.str z)) = false := by
  rw [decide_eq_true rfl]
  rfl
def spAreRead : Sp := fun vs H Q _ => ∃ (x : V) (f : Fm) (m : Nat) (z : Str), vs = [x, .str z] ∧ Tp H x f.d ∧ FmOk f m ∧ z.length ≤ 30 ∧ (∀ c ∈ z.cps.toList, 97 ≤ c ∧ c ≤ 122) ∧ ∀ H', Same H H' → Q (.bl true) H'
theorem sc_areread : FnScope ["form", "text", "before", "due"] ["form", "text"] (fnScope st_law_are_read) := fnScope_by (by decide +kernel)
section
variable {P : Program} {w : World} {K : PySem.W.Frag} {mg : Str → Option Value} {base : Heap} {f : Addr} {fd : FuncData}
set_option maxHeartbeats 4000000 in
theorem fn_areread (F : C8.Fun K "_law_are_read" "_law_are_read" st_law_are_read f fd) (Br : mg "repr" = none) (Ce : Cal P w K mg base 2 "effect" spEffect []) (Ca : Cal P w K mg base 3 "accepts" spAccepts []) (Co : Cal P w K mg base 1 "opposite" spOpposite [])
    (Cr : Cal P w K mg base 1 "_law_read" spRead []) (Cle : Cal P w K mg base 2 "_law_effect" spEffect []) : FnG P w K mg base 4 f fd ["form", "text"] spAreRead := by
  refine fnG_by F sc_areread (fun vs H Q E h => ?_) (fun cdv A outer s H vs Q E gu hr h => ?_)
  · obtain ⟨x, f, m, z, rfl, _⟩ := h
    rfl
  · obtain ⟨x, fm, m, z, rfl, hx, hf, hz, hl, k⟩ := h
    have hx0 := hx
    obtain ⟨a, vg, vr, go, rfl, h1, tg, tr, hgo⟩ := hx.f_inv
    refine ⟨_, pss_cons (ps_set (i := 2) sc_areread.nd rfl (Or.inl rfl) (pe_callB (call_repr gu hr.units) (by rfl) Br (by decide +kernel) (pa_cons (pe_tup (pa_cons (pv 0) (pa_cons (pv 1) pa_nil))) pa_nil)))
      (pss_cons (ps_if (pt_cmpR op_ne (pe_callB (call_repr gu hr.units) (by rfl) Br (by decide +kernel) (pa_cons (pe_c Ce hr (by decide) (by rfl) (pa_cons (pv 0) (pa_cons (pv 1) pa_nil))) pa_nil)) (pe_callB (call_repr gu hr.units) (by rfl) Br (by decide +kernel) (pa_cons (pe_c Cle hr (by decide) (by rfl) (pa_cons (pv 0) (pa_cons (pv 1) pa_nil))) pa_nil)) (nomark _)) (pss_one (ps_ret pe_bl)) pss_nil)
      (pss_cons (ps_set (i := 3) sc_areread.nd rfl (Or.inl rfl) (pe_cmpR op_in_seq (pe_c Cr hr (by decide) (by rfl) (pa_cons (pv 0) (pa_cons pe_int (pa_cons (pv 1) pa_nil)))) (pe_ix ix_tup (pv 0) pe_int (fun _ _ => rfl)) (by with_unfolding_all rfl)))
      (pss_cons (ps_if (PW.pt (pw_or (pt_cmpR op_ne (pe_callB (call_repr gu hr.units) (by rfl) Br (by decide +kernel) (pa_cons (pe_c Ca hr (by decide) (by rfl) (pa_cons (pv 0) (pa_cons (pv 1) pa_nil))) pa_nil)) (pe_callB (call_repr gu hr.units) (by rfl) Br (by decide +kernel) (pa_cons (pv 3) pa_nil)) (nomark _))
          (pw_or1 (pt_cmpR op_ne (pe_callB (call_repr gu hr.units) (by rfl) Br (by decide +kernel) (pa_cons (pe_c Ca hr (by decide) (by rfl) (pa_cons (pe_c Co hr (by decide) (by rfl) (pa_cons (pv 0) pa_nil)) (pa_cons (pv 1) pa_nil))) pa_nil)) (pe_callB (call_repr gu hr.units) (by rfl) Br (by decide +kernel) (pa_cons (pe_not (pv 3)) pa_nil)) (nomark _))))) (pss_one (ps_ret pe_bl)) pss_nil)
      (pss_one (ps_ret (pe_cmpR op_eq (pe_callB (call_repr gu hr.units) (by rfl) Br (by decide +kernel) (pa_cons (pe_tup (pa_cons (pv 0) (pa_cons (pv 1) pa_nil))) pa_nil)) (pv 2) (nomark _))))))), ?_⟩
    have nz : Neat 3 2000 (.str z) := (neat_str (low_strOk hl)).le (by decide) (by omega)
    have nb : Neat 4 5000 (.tuple [fm.d, .str z]) := (NeatAll.cons (neat_f hf) (NeatAll.cons nz neatAll_nil)).tup.le (by decide) (by decide)
    have z30 : z.length ≤ 30000 := by omega
    refine ⟨_, rfl, _, rfl, (by show 2 ≤ sizeLine; decide), fun q hq => ⟨_, .tuple [fm.d, .str z], 4, 5000, rfl, ?_, nb, by decide, by decide, ?_⟩⟩
    · exact (Tp.tup upd_same (.cons (hx0.mono (tk_new hq)) (.cons (.str z) .nil))).dp
    have s1 := same_new (o := .tup [V.ref a, .str z]) hq
    generalize upd H q (.tup [V.ref a, .str z]) = H1 at s1 ⊢
    obtain ⟨bf, hbf⟩ : ∃ bf, (PyData.tuple [fm.d, .str z]).shown = bf := ⟨_, rfl⟩
    rw [hbf]
    refine ⟨_, rfl, _, rfl, .ref a, fm, m, z, rfl, hx0.mono (Same.tk s1), hf, z30, fun v H2 s2 tv => ⟨_, wordD (effF fm z.cps.toList), 1, 200, rfl, tv.dp, neat_eff hf _, by decide, by decide, ?_⟩⟩
    have s12 := Same.trans s1 s2
    refine ⟨_, rfl, _, rfl, .ref a, fm, m, z, rfl, hx0.mono (Same.tk s12), hf, z30, fun v' H3 s3 tv' => ⟨_, wordD (effF fm z.cps.toList), 1, 200, rfl, tv'.dp, neat_eff hf _, by decide, by decide, ?_⟩⟩
    have s13 := Same.trans s12 s3
    generalize (wordD (effF fm z.cps.toList)).shown = ez
    refine ⟨rfl, _, rfl, iteF' (sameF _) ?_⟩
    refine ⟨_, rfl, _, rfl, .ref a, fm, m, 0, z, rfl, hx0.mono (Same.tk s13), hf, Nat.lt_of_lt_of_le Nat.zero_lt_one hf.m1, z30, fun H4 s4 => ?_⟩
    have s14 := Same.trans s13 s4
    refine ⟨_, rfl, a, _, _, _, rfl, rfl, SqT.of (s14 _ _ h1), atI_nat (j := 2) rfl, go, _, rfl, .inr (SqT.of (s14 _ _ hgo)), rfl, flat_nat _, ?_⟩
    rw [if_neg Bool.false_ne_true, inV_nats]
    have ea : decide (readF fm 0 z.cps.toList ∈ fm.good) = accF fm z.cps.toList := rfl
    rw [ea]
    refine ⟨_, rfl, _, rfl, .ref a, fm, m, z, rfl, hx0.mono (Same.tk s14), hf, z30, fun H5 s5 => ⟨_, .bool (accF fm z.cps.toList), 0, 0, rfl, .bl _, neat_bool _, by decide, by decide, _, rfl, _, .bool (accF fm z.cps.toList), 0, 0, rfl, .bl _, neat_bool _, by decide, by decide, ?_⟩⟩
    have s15 := Same.trans s14 s5
    generalize (PyData.bool (accF fm z.cps.toList)).shown = az
    refine ⟨rfl, _, rfl, iteF' (sameF _) ?_⟩
    refine ⟨_, rfl, .ref a, fm, m, rfl, hx0.mono (Same.tk s15), hf, fun v5 H6 s6 tv5 => ⟨_, rfl, v5, oppF fm, m, z, rfl, tv5, opp_ok hf, z30, fun H7 s7 => ?_⟩⟩
    rw [acc_opp hf]
    have s17 := Same.trans (Same.trans s15 s6) s7
    refine ⟨_, .bool (!accF fm z.cps.toList), 0, 0, rfl, .bl _, neat_bool _, by decide, by decide, _, rfl, _, rfl, _, .bool (!accF fm z.cps.toList), 0, 0, rfl, .bl _, neat_bool _, by decide, by decide, ?_⟩
    generalize (PyData.bool (!accF fm z.cps.toList)).shown = nz2
    refine ⟨rfl, _, rfl, iteF' (sameF _) ?_⟩
    refine ⟨_, rfl, _, rfl, (by show 2 ≤ sizeLine; decide), fun q2 hq2 => ⟨_, .tuple [fm.d, .str z], 4, 5000, rfl, ?_, nb, by decide, by decide, ?_⟩⟩
    · exact (Tp.tup upd_same (.cons ((hx0.mono (Same.tk s17)).mono (tk_new hq2)) (.cons (.str z) .nil))).dp
    rw [hbf]
    refine ⟨_, rfl, rfl, ?_⟩
    rw [decide_eq_true rfl]
    exact k _ (Same.trans s17 (same_new hq2))
end

/-! ### long texts -/
def repA (z : Str) (n : Nat) : Str := ⟨(List.replicate n z.cps).foldl (· ++ ·) #[]⟩
theorem foldA_list (c : Nat) : ∀ (n : Nat) (acc : Array Nat), ((List.replicate n #[c]).foldl (· ++ ·) acc).toList = acc.toList ++ List.replicate n c
  | 0, acc => by rw [List.replicate_zero, List.foldl_nil, List.replicate_zero, List.append_nil]
  | n + 1, acc => by
    rw [List.replicate_succ, List.foldl_cons, foldA_list c n, Array.toList_append, List.append_assoc, List.replicate_succ]
    rfl
theorem repA_list (c n : Nat) : (repA ⟨#[c]⟩ n).cps.toList = List.replicate n c := by
  have q := foldA_list c n #[]
  exact q
theorem repA_len (c n : Nat) : (repA ⟨#[c]⟩ n).length = n := by
  show (repA ⟨#[c]⟩ n).cps.size = n
  rw [← Array.length_toList, repA_list, List.length_replicate]
def rMulA : R2 := fun x y H Q => ∃ (c n : Nat), x = .str ⟨#[c]⟩ ∧ y = .int n ∧ 2 ≤ n ∧ n ≤ 30000 ∧ Q (.str (repA ⟨#[c]⟩ n)) H
section
open PySem.Spec PyProof.Rows
theorem op_mulA {X : Cx} : OpR X (binaryOp .Mult) rMulA := by
  intro pins s σ H x y v u Q I rx ry given
  obtain ⟨c, n, rfl, rfl, n2, big, q⟩ := given
  obtain ⟨t, rfl⟩ := rx
  obtain ⟨t2, rfl⟩ := ry
  have z1 : (⟨#[c]⟩ : Str).length = 1 := rfl
  have tn : (⟨#[c]⟩ : Str).length * ((n : Nat) : Int).toNat = n := by rw [Int.toNat_natCast, z1, Nat.one_mul]
  refine PySem.P.mul_str ?_ (fun _ _ => ?_) (fun _ _ => ?_) ?_
  · rw [decide_eq_false (by omega), decide_eq_false (by omega)]
    rfl
  · have h1 : ((⟨#[c]⟩ : Str).length : Int) ≤ (2 ^ 63 - 1) / (n : Int) := (Int.le_ediv_iff_mul_le (by omega)).mpr (by
      rw [z1]
      omega)
    exact Int.not_lt.mpr h1
  · unfold Builtin.Str.tooLong
    rw [tn]
    exact decide_eq_false (Nat.not_lt.mpr (Nat.le_trans big (by decide)))
  · have e1 : ¬ (n : Int) < 1 := by omega
    have e2 : ((n : Int) == 1 || (⟨#[c]⟩ : Str).length == 0) = false := by
      rw [Bool.or_eq_false_iff]
      exact ⟨beq_eq_false_iff_ne.mpr (by omega), rfl⟩
    rw [if_neg e1, if_neg (by rw [e2]; exact Bool.false_ne_true), Int.toNat_natCast]
    refine ⟨?_, .str _, H, I.tok _, ⟨_, rfl⟩, q⟩
    have q2 := repA_len c n
    show (repA ⟨#[c]⟩ n).length ≤ sizeLine
    rw [q2]
    exact Nat.le_trans big (by decide)
end
def evF : Fm := ⟨["a"], [[1, 0], [0, 1]], [0]⟩
theorem ev_ok : FmOk evF 2 where
  m1 := by decide
  m4 := by decide
  g3 := by decide
  rl := rfl
  rr := by decide
  gl := fun z hz => by
    obtain rfl := List.mem_singleton.mp hz
    exact ⟨by decide +kernel, by decide +kernel⟩
  ap := List.pairwise_singleton _ _
  gd := by decide
theorem ev_a : nextF evF 0 97 = 1 ∧ nextF evF 1 97 = 0 ∧ nextF evF 0 98 = 0 ∧ nextF evF 1 98 = 1 := by decide +kernel
theorem ev_read : ∀ (n s : Nat), s < 2 → readF evF s (List.replicate n 97) = (s + n) % 2
  | 0, s, hs => by
    rw [List.replicate_zero]
    show s = _
    omega
  | n + 1, s, hs => by
    rw [List.replicate_succ]
    show readF evF (nextF evF s 97) (List.replicate n 97) = _
    have e : s = 0 ∨ s = 1 := by omega
    rcases e with rfl | rfl
    · rw [ev_a.1, ev_read n 1 (by decide)]
      omega
    · rw [ev_a.2.1, ev_read n 0 (by decide)]
      omega
theorem ev_eff (n : Nat) : effF evF (List.replicate n 97) = [n % 2, (1 + n) % 2] := by
  show [readF evF 0 (List.replicate n 97), readF evF 1 (List.replicate n 97)] = _
  rw [ev_read n 0 (by decide), ev_read n 1 (by decide), Nat.zero_add]
theorem ev_acc (n : Nat) : accF evF (List.replicate n 97 ++ [98]) = decide (n % 2 = 0) := by
  have e : readF evF 0 (List.replicate n 97 ++ [98]) = n % 2 := by
    unfold readF
    rw [List.foldl_append]
    show nextF evF (readF evF 0 (List.replicate n 97)) 98 = _
    rw [ev_read n 0 (by decide), Nat.zero_add]
    have e : n % 2 = 0 ∨ n % 2 = 1 := by omega
    rcases e with e | e
    · rw [e, ev_a.2.2.1]
    · rw [e, ev_a.2.2.2]
  unfold accF
  rw [e]
  have e2 : (n % 2 ∈ evF.good) = (n % 2 = 0) := by
    show (n % 2 ∈ [0]) = _
    rw [List.mem_singleton]
  simp only [e2]
theorem strA : Str.ofString "a" = ⟨#[97]⟩ := by decide +kernel
theorem strB : (Str.ofString "b").cps.toList = [98] := by decide +kernel
theorem lenB : (Str.ofString "b").length = 1 := by decide +kernel
def spLong : Sp := fun vs H Q _ => ∃ x : Int, vs = [.int x] ∧ ∀ H', Same H H' → Q (.bl true) H'
theorem sc_long : FnScope ["cell", "many", "even", "due"] ["cell"] (fnScope st_law_long_is_right) := fnScope_by (by decide +kernel)
section
variable {P : Program} {w : World} {K : PySem.W.Frag} {mg : Str → Option Value} {base : Heap} {f : Addr} {fd : FuncData}
theorem cal_long (F : C8.Def K mg "_law_long_is_right" st_law_long_is_right f fd) (b : Binds K fd ["cell"] []) (B : BN2 mg) (Ce : Cal P w K mg base 2 "effect" spEffect []) (Ca : Cal P w K mg base 3 "accepts" spAccepts []) : Cal P w K mg base 4 "_law_long_is_right" spLong [] := by
  refine cal0 F b .nil sc_long (fun vs H Q E h => ?_) (fun cdv A outer s H vs Q E hr h => ?_)
  · obtain ⟨x, rfl, _⟩ := h
    rfl
  · obtain ⟨x, rfl, k⟩ := h
    refine ⟨_, pss_cons (ps_par (i := 1) (j := 2) rfl sc_long.nd rfl rfl (by decide) rfl rfl (pa_cons (pe_op op_add pe_int (pe_op op_mod (pe_callTy call_int1 (by rfl) B.int (by decide +kernel) (pa_cons (pv 0) pa_nil)) pe_int))
        (pa_cons (pe_tup (pa_cons (pe_tup (pa_cons pe_str pa_nil)) (pa_cons (pe_tup (pa_cons (pe_tup (pa_cons pe_int (pa_cons pe_int pa_nil))) (pa_cons (pe_tup (pa_cons pe_int (pa_cons pe_int pa_nil))) pa_nil))) (pa_cons (pe_tup (pa_cons pe_int pa_nil)) pa_nil)))) pa_nil)) (by rfl))
      (pss_cut (ps_set (i := 3) sc_long.nd rfl (Or.inl rfl) (pe_ifExp (pt_cmpR op_eq (pe_op op_mod (pe_callTy call_int1 (by rfl) B.int (by decide +kernel) (pa_cons (pv 1) pa_nil)) pe_int) pe_int (nomark _)) (pe_tup (pa_cons pe_int (pa_cons pe_int pa_nil))) (pe_tup (pa_cons pe_int (pa_cons pe_int pa_nil)))))
      (pss_one (ps_ret (pe_and (pe_cmpR (op_eqD hr.units) (pe_c Ce hr (by decide) (by rfl) (pa_cons (pv 2) (pa_cons (pe_op op_mulA pe_str (pv 1)) pa_nil))) (pv 3) (nomark _))
        (pe_one (pe_cmpR op_eq (pe_c Ca hr (by decide) (by rfl) (pa_cons (pv 2) (pa_cons (pe_op op_add_str (pe_op op_mulA pe_str (pe_op op_sub (pv 1) pe_int)) pe_str) pa_nil))) (pe_cmpR (op_neD hr.units) (pv 3) (pe_tup (pa_cons pe_int (pa_cons pe_int pa_nil))) (nomark _)) (nomark _))))))), ?_⟩
    obtain ⟨n, hn, n1, n2⟩ : ∃ n : Nat, 19000 + x % 1001 = (n : Int) ∧ 19000 ≤ n ∧ n ≤ 20001 := ⟨(19000 + x % 1001).toNat, by omega, by omega, by omega⟩
    refine ⟨_, rfl, .inl ⟨_, rfl, _, _, rfl, rfl, (by show (0 : Int) < 1001; decide), _, _, rfl, rfl, ?_⟩⟩
    show tCons _ tNil _ _ _
    refine ⟨(by show 1 ≤ sizeLine; decide), fun t1 h1 => ⟨(by show 2 ≤ sizeLine; decide), fun t2 h2 => ⟨(by show 2 ≤ sizeLine; decide), fun t3 h3 => ⟨(by show 2 ≤ sizeLine; decide), fun t4 h4 => ⟨(by show 1 ≤ sizeLine; decide), fun t5 h5 => ⟨(by show 3 ≤ sizeLine; decide), fun t6 h6 => ⟨_, _, rfl, ?_⟩⟩⟩⟩⟩⟩⟩
    have tp6 : Tp (upd (upd (upd (upd (upd (upd H t1 (.tup [.str "a"])) t2 (.tup [.int 1, .int 0])) t3 (.tup [.int 0, .int 1])) t4 (.tup [.ref t2, .ref t3])) t5 (.tup [.int 0])) t6 (.tup [.ref t1, .ref t4, .ref t5])) (.ref t6) evF.d := by
      have a1 : Tp (upd H t1 (.tup [.str "a"])) (.ref t1) (.tuple [.str "a"]) := .tup upd_same (.cons (.str _) .nil)
      have a2 : Tp (upd (upd H t1 (.tup [.str "a"])) t2 (.tup [.int 1, .int 0])) (.ref t2) (wordD [1, 0]) := tp_word upd_same
      have a3 : Tp (upd (upd (upd H t1 (.tup [.str "a"])) t2 (.tup [.int 1, .int 0])) t3 (.tup [.int 0, .int 1])) (.ref t3) (wordD [0, 1]) := tp_word upd_same
      have a4 : Tp (upd (upd (upd (upd H t1 (.tup [.str "a"])) t2 (.tup [.int 1, .int 0])) t3 (.tup [.int 0, .int 1])) t4 (.tup [.ref t2, .ref t3])) (.ref t4) (.tuple [wordD [1, 0], wordD [0, 1]]) :=
        .tup upd_same (.cons ((a2.mono (tk_new h3)).mono (tk_new h4)) (.cons (a3.mono (tk_new h4)) .nil))
      have a5 : Tp (upd (upd (upd (upd (upd H t1 (.tup [.str "a"])) t2 (.tup [.int 1, .int 0])) t3 (.tup [.int 0, .int 1])) t4 (.tup [.ref t2, .ref t3])) t5 (.tup [.int 0])) (.ref t5) (wordD [0]) := tp_word upd_same
      exact .tup upd_same (.cons (((((a1.mono (tk_new h2)).mono (tk_new h3)).mono (tk_new h4)).mono (tk_new h5)).mono (tk_new h6)) (.cons ((a4.mono (tk_new h5)).mono (tk_new h6)) (.cons (a5.mono (tk_new h6)) .nil)))
    have s6 := Same.trans (Same.trans (Same.trans (Same.trans (Same.trans (same_new (o := .tup [V.str "a"]) h1) (same_new (o := .tup [V.int 1, .int 0]) h2)) (same_new (o := .tup [V.int 0, .int 1]) h3)) (same_new (o := .tup [V.ref t2, .ref t3]) h4)) (same_new (o := .tup [V.int 0]) h5)) (same_new (o := .tup [V.ref t1, .ref t4, .ref t5]) h6)
    clear h1 h2 h3 h4 h5 h6
    generalize (upd (upd (upd (upd (upd (upd H t1 (.tup [.str "a"])) t2 (.tup [.int 1, .int 0])) t3 (.tup [.int 0, .int 1])) t4 (.tup [.ref t2, .ref t3])) t5 (.tup [.int 0])) t6 (.tup [.ref t1, .ref t4, .ref t5])) = H6 at tp6 s6 ⊢
    show C8.tCut _ _ _ [some (.int x), some (.int (19000 + x % 1001)), some (.ref t6), none] H6
    rw [hn]
    refine ⟨fun σ H' => Same H6 H' ∧ ∃ (dt : Addr) (dl : List Nat), σ = [some (.int x), some (.int (n : Nat)), some (.ref t6), some (.ref dt)] ∧ H' dt = some (.tup ((iN dl).map V.int)) ∧ dl = [n % 2, (1 + n) % 2], ?_, ?_⟩
    · refine ⟨_, rfl, .inl ⟨_, rfl, _, _, rfl, rfl, (by show (0 : Int) < 2; decide), rfl, _, rfl, ite2 (fun cc => ?_) (fun cc => ?_)⟩⟩
      · have e : (n : Int) % 2 = 1 := V.int.inj (of_decide_eq_true cc)
        have e1 : n % 2 = 1 := by omega
        have e2 : (1 + n) % 2 = 0 := by omega
        refine ⟨(by show 2 ≤ sizeLine; decide), fun dt hdt => ⟨same_new hdt, dt, [1, 0], rfl, upd_same, by rw [e1, e2]⟩⟩
      · have e : ¬ (n : Int) % 2 = 1 := fun z => cc (decide_eq_true (congrArg V.int z))
        have e1 : n % 2 = 0 := by omega
        have e2 : (1 + n) % 2 = 1 := by omega
        refine ⟨(by show 2 ≤ sizeLine; decide), fun dt hdt => ⟨same_new hdt, dt, [0, 1], rfl, upd_same, by rw [e1, e2]⟩⟩
    · rintro σ H7 ⟨s7, dt, dl, rfl, hd, edl⟩
      have nw : Neat 1 200 (wordD dl) := by
        rw [edl]
        exact (neat_word (ns := [n % 2, (1 + n) % 2]) fun y hy => by
          have q : y = n % 2 ∨ y = (1 + n) % 2 := by simpa using hy
          omega).le (Nat.le_refl _) (by show 2 * 41 ≤ 200; decide)
      have sw := shapF nw (by decide)
      refine ⟨_, rfl, _, rfl, 97, n, congrArg V.str strA, rfl, by omega, by omega, .ref t6, evF, 2, repA ⟨#[97]⟩ n, rfl, tp6.mono (Same.tk s7), ev_ok, by rw [repA_len]; omega, fun v H8 s8 tv => ?_⟩
      rw [repA_list, ev_eff, ← edl] at tv
      have s78 := Same.trans s7 s8
      refine ⟨_, rfl, wordD dl, wordD dl, tv.dp, (tp_word (s8 _ _ hd)).dp, sw, sw, _, rfl, iteT' (eqvW dl) ?_⟩
      have lz : (repA ⟨#[97]⟩ (n - 1) ++ "b" : Str).length = n := by
        rw [len_cat, repA_len, lenB]
        omega
      refine ⟨_, rfl, _, rfl, _, _, rfl, rfl, 97, n - 1, congrArg V.str strA, congrArg V.int (by omega), by omega, by omega, _, _, rfl, rfl, ?_, .ref t6, evF, 2, _, rfl, tp6.mono (Same.tk s78), ev_ok, ?_, fun H9 s9 => ?_⟩
      · rw [repA_len, lenB]
        exact Nat.le_trans (show n - 1 + 1 ≤ 30000 by omega) (by decide)
      · rw [lz]
        omega
      · rw [cat_cps, repA_list, strB, ev_acc]
        refine ⟨_, rfl, (by show 2 ≤ sizeLine; decide), fun q hq => ⟨wordD dl, wordD [0, 1], (tp_word (same_new hq _ _ (s9 _ _ (s8 _ _ hd)))).dp, (show Tp (upd H9 q (.tup [.int 0, .int 1])) (.ref q) (wordD [0, 1]) from tp_word upd_same).dp, sw, by decide +kernel, rfl, ?_⟩⟩
        have s10 := Same.trans (Same.trans s6 s78) (Same.trans s9 (same_new (o := .tup [V.int 0, .int 1]) hq))
        have ev : decide (V.bl (decide ((n - 1) % 2 = 0)) = V.bl (!PyData.eqv (wordD dl) (wordD [0, 1]))) = true := by
          refine decide_eq_true (congrArg V.bl ?_)
          have e : n % 2 = 0 ∨ n % 2 = 1 := by omega
          rcases e with e | e
          · have e2 : (1 + n) % 2 = 1 := by omega
            rw [edl, e, e2, eqvW, decide_eq_false (by omega)]
            rfl
          · have e2 : (1 + n) % 2 = 0 := by omega
            have e3 : PyData.eqv (wordD [1, 0]) (wordD [0, 1]) = false := by decide +kernel
            rw [edl, e, e2, e3, decide_eq_true (by omega)]
            rfl
        rw [ev]
        exact k _ s10
end

/-! ### what may be shown, its numbers being great -/
structure Shw (d : PyData) : Prop where
  lay : d.canLay0 = true
  sh : d.showable = true
  dep : d.depth ≤ 50
  fits : d.shown.length ≤ sizeLine
theorem Neat.shw {k n : Nat} {d : PyData} (h : Neat k n d) (hk : k ≤ 50) (hn : n ≤ 1000000) : Shw d := ⟨h.lay, h.sh, Nat.le_trans h.dep hk, h.fits hk hn⟩
theorem log_big {i : Int} (h : i.natAbs < 10 ^ 300) : i.natAbs.log2 < 1920 := by
  by_cases h0 : i.natAbs = 0
  · rw [h0]
    decide
  · rw [Nat.log2_lt h0]
    exact Nat.lt_trans h (by decide +kernel)
theorem short_big {i : Int} (h : i.natAbs < 10 ^ 300) : PyData.intsShort 301 (.int i) = true := by
  simp only [PyData.intsShort, PyData.shown, decide_eq_true_eq]
  exact decide_eq_true (Nat.le_trans (Nat.le_of_eq (str_len _)) (int_text_length_le10 (a := i) (k := 300) (by decide) h))
theorem shw_two {i j : Int} (hi : i.natAbs < 10 ^ 300) (hj : j.natAbs < 10 ^ 300) : Shw (.tuple [.int i, .int j]) := by
  have lay : PyData.canLay0 (.tuple [.int i, .int j]) = true := by simp only [PyData.canLay0, PyData.canLayAll0, Bool.and_self]
  have short : PyData.intsShort 301 (.tuple [.int i, .int j]) = true := by
    have a := short_big hi
    have b := short_big hj
    simp only [PyData.intsShort, PyData.intsShortAll, Bool.and_eq_true] at a b ⊢
    exact ⟨a, b, trivial⟩
  have wt : PyData.weight (.tuple [.int i, .int j]) ≤ 4000 := by
    have a := log_big hi
    have b := log_big hj
    simp only [PyData.weight, PyData.weightAll]
    split <;> split <;> omega
  refine ⟨lay, ?_, by simp only [PyData.depth, PyData.depthAll]; decide, ?_⟩
  · simp only [PyData.showable, PyData.showableAll, Bool.and_eq_true, decide_eq_true_eq]
    exact ⟨log_big hi, log_big hj, trivial⟩
  · have q := PyData.shown_le 301 (by decide) _ (PyData.leavesShort_of_canLay0 301 _ lay short)
    exact Nat.le_trans q (Nat.le_trans (show (301 + 2) * PyData.weight (.tuple [.int i, .int j]) + 301 ≤ 1300000 by omega) (by decide))
def rReprS (K : PySem.W.Frag) : List V → Hp → VK → Prop := fun xs H Q => ∃ (x : V) (d : PyData), xs = [x] ∧ Dp K H x d ∧ Shw d ∧ Q (.str d.shown) H
theorem call_reprS {X : Cx} (hg : X.A.guards = some []) (hu : X.A.units + 64 < cLine) : CallR X (.builtin "repr") (rReprS X.K) := by
  intro pins s σ H xs us Q I rel h
  obtain ⟨x, d, rfl, hd, hn, q⟩ := h
  obtain ⟨u, rfl, ru⟩ := vals1 rel
  obtain ⟨as, rr⟩ := Dp.reads I d x u hd ru
  have dd := hn.dep
  cases hd
  case non =>
    cases ru
    exact PySem.P.repr_of_none ⟨.str _, H, I.tok _, ⟨_, rfl⟩, q⟩
  case bl b =>
    cases ru
    exact PySem.P.repr_of_bool ⟨.str _, H, I.tok _, ⟨_, rfl⟩, q⟩
  case int i =>
    obtain ⟨t, rfl⟩ := ru
    have sh := hn.sh
    simp only [PyData.showable, decide_eq_true_eq] at sh
    exact PySem.P.repr_of_int sh ⟨.str _, H, I.tok _, ⟨_, rfl⟩, q⟩
  case str z =>
    obtain ⟨t, rfl⟩ := ru
    exact PySem.P.repr_of_str ⟨.str _, H, I.tok _, ⟨_, rfl⟩, q⟩ hn.fits
  case lst =>
    cases ru
    exact repr_of_reads' rr hn.sh (PyData.noDict_hsm (PyData.hasDict_of_canLay _ hn.lay)) hg (by omega) (fun _ _ e => e) (fun _ _ _ kk => ⟨.str _, H, I.kept kk, ⟨_, rfl⟩, q⟩) hn.fits
  case tup =>
    cases ru
    exact repr_of_reads' rr hn.sh (PyData.noDict_hsm (PyData.hasDict_of_canLay _ hn.lay)) hg (by omega) (fun _ _ e => e) (fun _ _ _ kk => ⟨.str _, H, I.kept kk, ⟨_, rfl⟩, q⟩) hn.fits
/-! ### defs that show something, called -/
section
open PySem.Spec PyProof.Rows
structure CalG (P : Program) (w : World) (K : PySem.W.Frag) (mg : Str → Option Value) (base : Heap) (k : Nat) (x : Str) (sp : Sp) : Prop where
  ex : ∃ (f : Addr) (fd : FuncData) (ps : List Str), FnG P w K mg base k f fd ps sp ∧ mg x = some (.ref f) ∧ PySem.W.keepIn K (.ref f) = true ∧ Binds K fd ps []
theorem run_g {X : Cx} {k j : Nat} {f : Addr} {fd : FuncData} {ps : List Str} {sp : Sp} {pins : List (Addr × Obj)} {σ : L2.St} {H : Hp} {s : Shared} {Q : VK} {us : List Value} {vs : List V} (F : FnG X.prog X.w X.K X.mg X.base k f fd ps sp) (b : Binds X.K fd ps []) (gu : X.A.guards = some []) (hr : Room j X.A) (hk : k ≤ j)
    (I : Inv X pins σ H s) (r : Vals vs us) (h : sp vs H Q E0) : wpAny (model X.prog X.w) X.A (call (.ref f) us) (EP X pins σ Q) X.xe s := by
  have n : (us ++ []).length = ps.length := by
    rw [List.append_nil, ← r.length]
    exact F.many _ _ _ _ h
  have bt := b s us I.kIn n
  rw [List.append_nil] at bt
  refine wpAny_call (codeAny_mono (F.goes X.A X.stack s H ⟨us, []⟩ us vs Q E0 gu (hr.mono hk) I.env0 bt r h) fun res s' got => ?_)
  match res, got with
  | .error e, got => exact pass0 pins σ H s e s' I got
  | .ok (.ret u), got => exact I.after got
theorem pe_g {X : Cx} {k j : Nat} {x : Str} {sp : Sp} {p pos : Pos} {e : Expr} {es : List Expr} {t : TA} (c : CalG X.prog X.w X.K X.mg X.base k x sp) (gu : X.A.guards = some []) (hr : Room j X.A) (hk : k ≤ j) (hg : Gl X x) (ha : PA X (e :: es) t)
    (hdb : (x == ("__debug__" : Str)) = false := by decide) (he : starEach (e :: es) X.env = (false, eval e X.env) :: starEach es X.env := by rfl) (hpl : (backTo pos (starEach es X.env)).any (·.1) = false := by rfl) :
    PE X (.Call (.Name x p) (e :: es) [] pos) (fun σ H Q => t σ H fun vs H1 => sp vs H1 Q E0) := by
  obtain ⟨f, fd, ps, F, hm, kp, b⟩ := c.ex
  exact ⟨fun pins s σ H Q I h => wpAny_Call_Name_kw (ld_glob I hg hm (PySem.W.callWith_K (h₀ := X.base) I.ok.mod.kin kp (thn (ha.run pos pins s σ H _ I h) fun us s1 ⟨vs, H1, I1, r, q⟩ => ⟨I1.kIn, run_g F b gu hr hk I1 r q⟩) he hpl) hdb)⟩
theorem pe_g0 {X : Cx} {k j : Nat} {x : Str} {sp : Sp} {p pos : Pos} (c : CalG X.prog X.w X.K X.mg X.base k x sp) (gu : X.A.guards = some []) (hr : Room j X.A) (hk : k ≤ j) (hg : Gl X x) (hdb : (x == ("__debug__" : Str)) = false := by decide) :
    PE X (.Call (.Name x p) [] [] pos) (fun _ H Q => sp [] H Q E0) := by
  obtain ⟨f, fd, ps, F, hm, kp, b⟩ := c.ex
  exact ⟨fun pins s σ H Q I h => wpAny_Call_Name_kw (ld_glob I hg hm (PySem.W.callWith_K0 I.kIn kp (run_g (us := []) F b gu hr hk I .nil h)) hdb)⟩
end

/-! ### the law of forms -/
def spLaw (K : PySem.W.Frag) : Sp := fun vs H Q _ => ∃ (a : Addr) (ns : List Int), vs = [.ref a] ∧ SqL K H a (ns.map V.int) ∧ ∀ H', Q (.bl true) H'
def nLaw36 : List Str := ["script", "pen", "turn", "form", "lap", "one", "two", "first", "second", "good", "writer", "cell", "state"]
theorem sc_law : FnScope nLaw36 ["script"] (fnScope st_law_) := fnScope_by (by decide +kernel)
theorem cut_one (ns : List Int) : ∃ ms : List Int, cutV (ns.map V.int) none (some 1) = ms.map V.int ∧ ms.length ≤ 1 := by
  refine ⟨(ns.drop (HT.sIx (ns.map V.int).length 0 none)).take (HT.sIx (ns.map V.int).length (ns.map V.int).length (some 1) - HT.sIx (ns.map V.int).length 0 none), ?_, ?_⟩
  · unfold cutV
    rw [← List.map_drop, ← List.map_take]
  · rw [List.length_take]
    have e : HT.sIx (ns.map V.int).length (ns.map V.int).length (some 1) ≤ 1 := by
      show (if (1 : Int) < 0 then ((1 : Int) + ((ns.map V.int).length : Int)).toNat else min (1 : Int).toNat (ns.map V.int).length) ≤ 1
      rw [if_neg (by decide)]
      exact Nat.min_le_left _ _
    omega
theorem eff_cat {f : Fm} {m : Nat} (h : FmOk f m) (a b : List Nat) : effF f (a ++ b) = (effF f a).map fun s => (effF f b).getD s 0 := by
  unfold effF
  rw [List.map_map]
  refine List.map_congr_left fun s hs => ?_
  have hs' : s < m := by
    rw [← h.rl]
    exact List.mem_range.mp hs
  have lt := read_lt h a s hs'
  show readF f s (a ++ b) = ((List.range f.rows.length).map fun s => readF f s b).getD (readF f s a) 0
  rw [List.getD_eq_getElem?_getD, List.getElem?_map, List.getElem?_range (by rw [h.rl]; exact lt)]
  show readF f s (a ++ b) = readF f (readF f s a) b
  unfold readF
  rw [List.foldl_append]
theorem ne_word (l : List Nat) : (!PyData.eqv (wordD l) (wordD l)) = false := by
  rw [eqvW]
  rfl
theorem ne_form (f : Fm) : (!PyData.eqv f.d f.d) = false := by
  rw [eqvF]
  rfl
section
variable {P : Program} {w : World} {K : PySem.W.Frag} {mg : Str → Option Value} {base : Heap} {f : Addr} {fd : FuncData}
set_option maxHeartbeats 20000000 in
theorem fn_law (F : C8.Fun K "law" "law" st_law_ f fd) (B : BN2 mg) (Br : mg "repr" = none) (Bx : mg "max" = none) (Bn : mg "min" = none) (Ba : mg "abs" = none) (Cl : Cal P w K mg base 4 "_law_long_is_right" spLong []) (Cpen : Cal P w K mg base 1 "_law_pen" (spPen K) []) (Cf : Cal P w K mg base 4 "_law_form" spForm [])
    (Clt : Cal P w K mg base 4 "_law_letters" spLetF []) (Cr : CalG P w K mg base 4 "_law_are_read" spAreRead) (Ce : Cal P w K mg base 2 "effect" spEffect []) (Co : Cal P w K mg base 1 "opposite" spOpposite []) (Cd : Cal P w K mg base 2 "_law_draw" spDraw []) (Cw : Cal P w K mg base 7 "_law_writer" spWriter [])
    (Cfit : Cal P w K mg base 2 "form_fits" spFits []) (Clfit : Cal P w K mg base 1 "_law_does_fit" spFits []) : FnG P w K mg base 8 f fd ["script"] (spLaw K) := by
  refine fnG_by F sc_law (fun vs H Q E h => ?_) (fun cdv A outer s H vs Q E gu hr h => ?_)
  · obtain ⟨a, ns, rfl, _⟩ := h
    rfl
  · obtain ⟨a, ns, rfl, hS, k⟩ := h
    refine ⟨_, pss_cons (ps_if (pt_not (pt_val (pe_c Cl hr (by decide) (by rfl) (pa_cons (pe_ix ix_list (pe_op op_cat (pe_lc (own := [("cell", 11)]) (g := gName 11) (tt := tYes) (by rfl) sc_law.nd (pi_list (pe_slice sl_list (pv 0) po_none (po_some pe_int)))
          (blkOk_by (own := [("cell", 11)]) (N := nLaw36) (sc := fnScope st_law_) (by decide +kernel)) (fun _ _ _ _ _ => pg_name (i := 11) sc_law.nd rfl (Or.inl rfl)) (fun _ _ _ _ _ => pts_nil)
          (fun _ _ _ _ _ => pe_callB call_abs (by rfl) Ba (by decide +kernel) (pa_cons (pe_callTy call_int1 (by rfl) B.int (by decide +kernel) (pa_cons (pv 11) pa_nil)) pa_nil))) (pe_lst (pa_cons pe_int pa_nil))) pe_int (fun _ _ => rfl)) pa_nil)))) (pss_one (ps_ret pe_bl)) pss_nil)
      (pss_cons (ps_set (i := 1) sc_law.nd rfl (Or.inl rfl) (pe_c Cpen hr (by decide) (by rfl) (pa_cons (pv 0) pa_nil)))
      (pss_cons (ps_for PassesOwn.never rfl (pi_range1 rfl B.range (pa_cons (pe_callB (call_max2 rfl) (by rfl) Bx (by decide +kernel) (pa_cons pe_int (pa_cons (pe_callB (call_min2 rfl) (by rfl) Bn (by decide +kernel) (pa_cons pe_int (pa_cons (pe_callB call_len_seq (by rfl) B.len PySem.boot_len (pa_cons (pv 0) pa_nil)) pa_nil))) pa_nil))) pa_nil)) (pg_name (i := 2) sc_law.nd rfl (Or.inl rfl))
        (pss_cons (ps_set (i := 3) sc_law.nd rfl (Or.inr rfl) (pe_c Cf hr (by decide) (by rfl) (pa_cons (pv 1) (pa_cons pe_int pa_nil))))
        (pss_cons (ps_for PassesOwn.never rfl (pi_range1 rfl B.range (pa_cons pe_int pa_nil)) (pg_name (i := 4) sc_law.nd rfl (Or.inl rfl))
          (pss_cons (ps_par (i := 5) (j := 6) rfl sc_law.nd rfl rfl (by decide) rfl rfl (pa_cons (pe_c Clt hr (by decide) (by rfl) (pa_cons (pv 1) (pa_cons pe_int pa_nil))) (pa_cons (pe_c Clt hr (by decide) (by rfl) (pa_cons (pv 1) (pa_cons pe_int pa_nil))) pa_nil)) (by rfl))
          (pss_cons (ps_if (PW.pt (pw_or (pt_not (pt_val (pe_g Cr gu hr (by decide) (by rfl) (pa_cons (pv 3) (pa_cons (pv 5) pa_nil))))) (pw_or1 (pt_not (pt_val (pe_g Cr gu hr (by decide) (by rfl) (pa_cons (pv 3) (pa_cons (pe_op op_add_str (pv 5) (pv 6)) pa_nil)))))))) (pss_one (ps_ret pe_bl)) pss_nil)
          (pss_cons (ps_asg (pe_tup (pa_cons (pe_c Ce hr (by decide) (by rfl) (pa_cons (pv 3) (pa_cons (pv 5) pa_nil))) (pa_cons (pe_c Ce hr (by decide) (by rfl) (pa_cons (pv 3) (pa_cons (pv 6) pa_nil))) pa_nil)))
              (pg_tup rfl (pgs_cons (pg_name (i := 7) sc_law.nd rfl (Or.inl rfl)) (pgs_cons (pg_name (i := 8) sc_law.nd rfl (Or.inr rfl)) pgs_nil))))
          (pss_one (ps_if (pt_cmpR (op_neD hr.units) (pe_c Ce hr (by decide) (by rfl) (pa_cons (pv 3) (pa_cons (pe_op op_add_str (pv 5) (pv 6)) pa_nil))) (pe_callTy call_tuple_of (by rfl) B.tuple (by decide +kernel) (pa_cons (pe_lc (own := [("state", 12)]) (g := gName 12) (tt := tYes) (by rfl) sc_law.nd (pi_tup (pv 7))
            (blkOk_by (own := [("state", 12)]) (N := nLaw36) (sc := fnScope st_law_) (by decide +kernel)) (fun _ _ _ _ _ => pg_name (i := 12) sc_law.nd rfl (Or.inl rfl)) (fun _ _ _ _ _ => pts_nil)
            (fun _ _ _ _ _ => pe_ix (ix_tupK K) (pv 8) (pv 12) (fun _ _ => rfl))) pa_nil)) (nomark _)) (pss_one (ps_ret pe_bl)) pss_nil))))))
        (pss_cons (ps_set (i := 9) sc_law.nd rfl (Or.inl rfl) (pe_callTy call_tuple_of (by rfl) B.tuple (by decide +kernel) (pa_cons (pe_lc (own := [("state", 12)]) (g := gName 12) (tt := tTest (tOp (rIn K true) (tVar 12) (tOp (rIxT K) (tVar 3) (tC (.int 2))))) (by rfl) sc_law.nd (pi_range1 rfl B.range (pa_cons (pe_callB call_len_seq (by rfl) B.len PySem.boot_len (pa_cons (pe_ix ix_tup (pv 3) pe_int (fun _ _ => rfl)) pa_nil)) pa_nil))
            (blkOk_by (own := [("state", 12)]) (N := nLaw36) (sc := fnScope st_law_) (by decide +kernel)) (fun _ _ _ _ _ => pg_name (i := 12) sc_law.nd rfl (Or.inl rfl))
            (fun _ _ _ _ _ => pts_one (pt_cmpR (op_notInK K) (pv 12) (pe_ix (ix_tupK K) (pv 3) pe_int (fun _ _ => rfl)) (by with_unfolding_all rfl))) (fun _ _ _ _ _ => pv 12)) pa_nil)))
        (pss_cons (ps_if (PW.pt (pw_or (pt_cmpR op_ne (pe_callB (call_repr gu hr.units) (by rfl) Br (by decide +kernel) (pa_cons (pe_c Co hr (by decide) (by rfl) (pa_cons (pv 3) pa_nil)) pa_nil)) (pe_callB (call_repr gu hr.units) (by rfl) Br (by decide +kernel) (pa_cons (pe_tup (pa_cons (pe_ix ix_tup (pv 3) pe_int (fun _ _ => rfl)) (pa_cons (pe_ix ix_tup (pv 3) pe_int (fun _ _ => rfl)) (pa_cons (pv 9) pa_nil)))) pa_nil)) (nomark _))
            (pw_or1 (pt_cmpR (op_neD hr.units) (pe_c Co hr (by decide) (by rfl) (pa_cons (pe_c Co hr (by decide) (by rfl) (pa_cons (pv 3) pa_nil)) pa_nil)) (pv 3) (nomark _))))) (pss_one (ps_ret pe_bl)) pss_nil)
        (pss_cons (ps_set (i := 10) sc_law.nd rfl (Or.inl rfl) (pe_c Cw hr (by decide) (by rfl) (pa_cons (pv 1) (pa_cons (pe_op op_add pe_int (pe_c Cd hr (by decide) (by rfl) (pa_cons (pv 1) (pa_cons pe_int pa_nil)))) (pa_cons pe_int (pa_cons pe_int pa_nil))))))
        (pss_one (ps_if (pt_cmpR op_ne (pe_callB (call_repr gu hr.units) (by rfl) Br (by decide +kernel) (pa_cons (pe_c Cfit hr (by decide) (by rfl) (pa_cons (pv 10) (pa_cons (pv 3) pa_nil))) pa_nil)) (pe_callB (call_repr gu hr.units) (by rfl) Br (by decide +kernel) (pa_cons (pe_c Clfit hr (by decide) (by rfl) (pa_cons (pv 10) (pa_cons (pv 3) pa_nil))) pa_nil)) (nomark _)) (pss_one (ps_ret pe_bl)) pss_nil))))))))
      (pss_one (ps_ret pe_bl)))), ?_⟩
    have hSx : ∀ H', Same H H' → SqL K H' a (ns.map V.int) := fun H' s1 => by
      rcases hS with (z | ⟨o, z⟩) | z
      · exact .inl (.inl (s1 _ _ z))
      · exact .inl (.inr ⟨o, s1 _ _ z⟩)
      · exact .inr z
    obtain ⟨ms, hms, lms⟩ := cut_one ns
    refine ⟨_, rfl, _, rfl, a, _, rfl, hS, fun l hl => ?_⟩
    have s1 := same_new (o := .lst (cutV (ns.map V.int) none (some 1))) hl
    have hL : upd H l (.lst (cutV (ns.map V.int) none (some 1))) l = some (.lst (ms.map V.int)) := by rw [upd_same, hms]
    generalize upd H l (.lst (cutV (ns.map V.int) none (some 1))) = H1 at s1 hL ⊢
    refine ⟨l, rfl, ⟨_, SqL.of hL⟩, fun D hD => ?_⟩
    have lm : (ms.map V.int).length = ms.length := List.length_map ..
    refine lc_list (K := K) (a := l) (xs := ms.map V.int) (fun i H' => Same H1 H' ∧ ∃ xs : List Int, H' D = some (.lst (xs.map V.int)) ∧ xs.length = i) ⟨same_new hD, [], upd_same, rfl⟩ (fun i H' _ h => SqL.of (h.1 _ _ hL)) ?_ ?_
    · rintro i x H2 hx ⟨s2, xs, hD2, xl⟩
      obtain ⟨y, _, rfl⟩ : ∃ y, ms[i]? = some y ∧ x = V.int y := by
        rw [List.getElem?_map] at hx
        cases e : ms[i]? with
        | none =>
          rw [e] at hx
          cases hx
        | some y =>
          rw [e] at hx
          exact ⟨y, rfl, (Option.some.inj hx).symm⟩
      have ilt := (List.getElem?_eq_some_iff.mp hx).1
      refine ⟨rfl, _, rfl, .inl ⟨_, rfl, _, rfl, _, hD2, ?_, Same.put s2 hD, xs ++ [if y < 0 then -y else y], ?_, ?_⟩⟩
      · rw [List.length_map]
        exact Nat.lt_of_lt_of_le (show xs.length < 2 by omega) (by decide)
      · rw [upd_same, List.map_append]
        rfl
      · rw [List.length_append, xl]
        rfl
    · rintro H2 ⟨s2, xs, hD2, xl⟩
      refine ⟨(by show 1 ≤ sizeLine; decide), fun e he => ?_⟩
      have s3 := Same.trans s2 (same_new (o := .lst [V.int 999]) he)
      have hD3 := same_new (o := .lst [V.int 999]) he _ _ hD2
      refine ⟨D, e, _, _, rfl, rfl, hD3, upd_same, ?_, fun lc hlc => ?_⟩
      · rw [List.length_map, List.length_singleton]
        exact Nat.le_trans (show xs.length + 1 ≤ 10 by omega) (by decide)
      have s4 := Same.trans (Same.trans s1 s3) (same_new (o := .lst (xs.map V.int ++ [V.int 999])) hlc)
      obtain ⟨v, hv⟩ : ∃ v : Int, (xs.map V.int ++ [V.int 999])[0]? = some (V.int v) := by
        cases xs with
        | nil => exact ⟨999, rfl⟩
        | cons y r => exact ⟨y, rfl⟩
      refine ⟨lc, _, _, V.int v, rfl, rfl, SqL.of upd_same, atI_nat (j := 0) hv, v, rfl, fun H3 s5 => ⟨_, rfl, iteF ?_⟩⟩
      have s6 := Same.trans s4 s5
      clear hD3 hlc hD2 hL he
      refine ⟨_, rfl, a, ns, rfl, hSx _ s6, fun H4 p c s7 hP p0 => ?_⟩
      have hS7 := hSx _ (Same.trans s6 s7)
      clear s1 s2 s3 s4 s5 s6 s7 hms lms lm xl hv
      refine ⟨_, rfl, a, _, rfl, .inl hS7, _, _, rfl, _, _, rfl, _, rfl, ?_, ?_, for_range (fun i σ H' => (∃ v2 v3 v4 v5 v6 v7 v8 v9 v10 v11 v12 : Option V, σ = [some (.ref a), some (.ref p), v2, v3, v4, v5, v6, v7, v8, v9, v10, v11, v12]) ∧ Pen H' p c) ⟨⟨_, _, _, _, _, _, _, _, _, _, _, rfl⟩, hP⟩ ?_ ?_⟩
      · split <;> split <;> omega
      · split <;> split <;> omega
      · rintro i σ H5 hi ⟨⟨v2, v3, v4, v5, v6, v7, v8, v9, v10, v11, v12, rfl⟩, hP5⟩
        refine ⟨_, rfl, p, c, 4, rfl, hP5, by decide, by decide, fun fm m ft H6 hf k6 tf => ?_⟩
        have m4 := hf.m4
        refine ⟨4, rfl, by decide, by decide, for_range (fun j σ H' => (∃ w4 w5 w6 w7 w8 w11 w12 : Option V, σ = [some (.ref a), some (.ref p), some (.int (0 + (i : Int))), some (.ref ft), w4, w5, w6, w7, w8, v9, v10, w11, w12]) ∧ Kp p c H6 H') ⟨⟨_, _, _, _, _, _, _, rfl⟩, Kp.rfl' k6.pen⟩ ?_ ?_⟩
        · rintro j σ H7 hj ⟨⟨w4, w5, w6, w7, w8, w11, w12, rfl⟩, k7⟩
          refine ⟨_, rfl, p, c, 6, rfl, k7.pen, by decide, fun z1 H8 t1 k8 => ⟨_, rfl, p, c, 6, rfl, k8.pen, by decide, fun z2 H9 t2 k9 => ⟨_, _, rfl, ?_⟩⟩⟩
          have k69 := (k7.trans k8).trans k9
          have tf9 := tf.mono (k69.tk k6.pen)
          have n1 := t1.len
          have n2 := t2.len
          have l1 := t1.low
          have l2 := t2.low
          have n3 : (z1 ++ z2).length = z1.length + z2.length := len_cat z1 z2
          have l3 : ∀ y ∈ (z1 ++ z2).cps.toList, 97 ≤ y ∧ y ≤ 122 := fun y hy => by
            rw [cat_cps] at hy
            rcases List.mem_append.mp hy with hy | hy
            · exact l1 y hy
            · exact l2 y hy
          have fit3 : z1.length + z2.length ≤ sizeLine := Nat.le_trans (show z1.length + z2.length ≤ 200 by omega) (by decide)
          refine ⟨_, rfl, _, rfl, .ref ft, fm, m, z1, rfl, tf9, hf, by omega, l1, fun H10 s10 => ⟨_, rfl, iteF ?_⟩⟩
          have tf10 := tf9.mono (Same.tk s10)
          refine ⟨_, rfl, _, rfl, _, rfl, _, _, rfl, rfl, fit3, .ref ft, fm, m, z1 ++ z2, rfl, tf10, hf, by omega, l3, fun H11 s11 => ⟨_, rfl, iteF ?_⟩⟩
          have tf11 := tf10.mono (Same.tk s11)
          refine ⟨_, rfl, _, rfl, .ref ft, fm, m, z1, rfl, tf11, hf, by omega, fun e1 H12 s12 te1 => ⟨_, rfl, _, rfl, .ref ft, fm, m, z2, rfl, tf11.mono (Same.tk s12), hf, by omega, fun e2 H13 s13 te2 => ⟨(by show 2 ≤ sizeLine; decide), fun t0 ht0 => ⟨t0, _, rfl, SqT.of upd_same, rfl, _, _, rfl, _, _, rfl, rfl, ?_⟩⟩⟩⟩
          obtain ⟨a1, rfl, ha1⟩ := te1.word_inv
          obtain ⟨a2, rfl, ha2⟩ := te2.word_inv
          have sT := same_new (o := .tup [.ref a1, .ref a2]) ht0
          have s914 := Same.trans (Same.trans (Same.trans (Same.trans s10 s11) s12) s13) sT
          have hb1 := sT _ _ (s13 _ _ ha1)
          have hb2 := sT _ _ ha2
          clear ht0 sT ha1 ha2 te1 te2
          generalize upd H13 t0 (.tup [.ref a1, .ref a2]) = H14 at s914 hb1 hb2 ⊢
          have tf14 := tf9.mono (Same.tk s914)
          refine ⟨_, rfl, _, rfl, _, rfl, _, _, rfl, rfl, fit3, .ref ft, fm, m, z1 ++ z2, rfl, tf14, hf, by omega, fun v3 H15 s15 tv3 => ?_⟩
          refine ⟨_, rfl, a1, rfl, ⟨_, SqT.of (s15 _ _ hb1)⟩, fun D2 hD2 => ?_⟩
          have le1 : ((iN (effF fm z1.cps.toList)).map V.int).length = m := by rw [iN_len, eff_len, hf.rl]
          refine lc_tup (K := K) (a := a1) (xs := (iN (effF fm z1.cps.toList)).map V.int) (fun q H' => Same H15 H' ∧ H' D2 = some (.lst (((iN (effF fm (z1 ++ z2).cps.toList)).map V.int).take q))) ⟨same_new hD2, by rw [upd_same, List.take_zero]⟩ (fun q H' _ h => SqT.of (h.1 _ _ (s15 _ _ hb1))) ?_ ?_
          · rintro q x H16 hx ⟨s16, hDL⟩
            obtain ⟨st, hst, rfl⟩ := iN_inv hx
            have stl := eff_lt hf _ st (List.mem_of_getElem? hst)
            have h2 : (effF fm z2.cps.toList)[st]? = some ((effF fm z2.cps.toList).getD st 0) := by
              rw [List.getD_eq_getElem?_getD, List.getElem?_eq_getElem (by rw [eff_len, hf.rl]; exact stl)]
              rfl
            have hnew : ((iN (effF fm (z1 ++ z2).cps.toList)).map V.int)[q]? = some (V.int (((effF fm z2.cps.toList).getD st 0 : Nat) : Int)) := by
              refine iN_at ?_
              rw [cat_cps, eff_cat hf, List.getElem?_map, hst]
              rfl
            refine ⟨rfl, _, rfl, _, rfl, a2, _, _, _, rfl, rfl, SqT.of (s16 _ _ (s15 _ _ hb2)), atI_nat (iN_at h2), _, hDL, ?_, Same.put s16 hD2, ?_⟩
            · rw [List.length_take]
              have := (List.getElem?_eq_some_iff.mp hx).1
              exact Nat.lt_of_le_of_lt (Nat.min_le_left _ _) (Nat.lt_of_lt_of_le (show q < 10 by omega) (by decide))
            · rw [upd_same]
              generalize (iN (effF fm (z1 ++ z2).cps.toList)).map V.int = L at hnew ⊢
              rw [List.take_add_one, hnew]
              rfl
          · rintro H16 ⟨s16, hDL⟩
            have e : ((iN (effF fm (z1 ++ z2).cps.toList)).map V.int).length = m := by rw [iN_len, eff_len, hf.rl]
            rw [le1, List.take_of_length_le (Nat.le_of_eq e)] at hDL
            refine ⟨D2, _, rfl, .inl ⟨SqL.of hDL, fun u hu => ?_⟩⟩
            have s17 := Same.trans s16 (same_new (o := .tup ((iN (effF fm (z1 ++ z2).cps.toList)).map V.int)) hu)
            have tu : Tp (upd H16 u (.tup ((iN (effF fm (z1 ++ z2).cps.toList)).map V.int))) (.ref u) (wordD (effF fm (z1 ++ z2).cps.toList)) := tp_word upd_same
            have sw := shapF (neat_eff hf (z1 ++ z2).cps.toList) (by decide)
            refine ⟨wordD (effF fm (z1 ++ z2).cps.toList), wordD (effF fm (z1 ++ z2).cps.toList), (tv3.mono (Same.tk s17)).dp, tu.dp, sw, sw, _, rfl, iteF' (ne_word _) ?_⟩
            exact ⟨⟨_, _, _, _, _, _, _, rfl⟩, k69.same (Same.trans (Same.trans s914 s15) s17)⟩
        · rintro σ H7 ⟨⟨w4, w5, w6, w7, w8, w11, w12, rfl⟩, k7⟩
          have tf7 := tf.mono (k7.tk k6.pen)
          obtain ⟨fa, ra, go, vg, rx, e0, h1, r1, r2, rl, tg, hgo⟩ := tf7.f_rows
          cases e0
          have lr : rx.length = m := rl.trans hf.rl
          refine ⟨_, rfl, ft, _, _, _, rfl, rfl, SqT.of h1, atI_nat (j := 1) rfl, ra, _, rfl, .inr (SqT.of r1), _, rfl, by omega, by omega, fun D hD => ?_⟩
          have ld : (rx.length : Int).toNat = m := by rw [lr]; rfl
          refine lc_range (lo := 0) (n := (rx.length : Int).toNat) (fun i H' => Same H7 H' ∧ H' D = some (.lst ((iN ((List.range i).filter fun s => !decide (s ∈ fm.good))).map V.int))) ⟨same_new hD, upd_same⟩ ?_ ?_
          · rintro q H8 hq ⟨s8, hL⟩
            have e0 : (0 : Int) + (q : Int) = ((q : Nat) : Int) := Int.zero_add _
            refine ⟨rfl, _, rfl, _, rfl, ft, _, _, _, rfl, rfl, SqT.of (s8 _ _ h1), atI_nat (j := 2) rfl, go, _, rfl, .inr (SqT.of (s8 _ _ hgo)), rfl, flat_nat _, _, rfl, ?_⟩
            rw [if_pos rfl, e0, inV_nats]
            have more : (List.range (q + 1)).filter (fun s => !decide (s ∈ fm.good)) = (List.range q).filter (fun s => !decide (s ∈ fm.good)) ++ (if (!decide (q ∈ fm.good)) = true then [q] else []) := by
              rw [List.range_succ, List.filter_append, List.filter_cons, List.filter_nil]
            cases cq : (!decide (q ∈ fm.good)) with
            | true =>
              refine iteT' rfl ⟨_, rfl, _, hL, ?_, Same.put s8 hD, ?_⟩
              · rw [iN_len]
                exact Nat.lt_of_le_of_lt (Nat.le_trans (List.length_filter_le _ _) (by rw [List.length_range]; exact Nat.le_of_lt hq)) (by rw [ld]; exact Nat.lt_of_le_of_lt m4 (by decide))
              · rw [upd_same, more, if_pos cq, iN_app]
            | false =>
              refine iteF' rfl ⟨s8, ?_⟩
              rw [more, if_neg (by rw [cq]; exact Bool.false_ne_true), List.append_nil]
              exact hL
          · rintro H8 ⟨s8, hL⟩
            rw [ld] at hL
            refine ⟨D, _, rfl, .inl ⟨SqL.of hL, fun u hu => ?_⟩⟩
            have s9 := Same.trans s8 (same_new (o := .tup ((iN ((List.range m).filter fun s => !decide (s ∈ fm.good))).map V.int)) hu)
            have hu9 : upd H8 u (.tup ((iN ((List.range m).filter fun s => !decide (s ∈ fm.good))).map V.int)) u = some (.tup ((iN (oppF fm).good).map V.int)) := by
              rw [upd_same]
              show some (HO.tup ((iN ((List.range m).filter fun s => !decide (s ∈ fm.good))).map V.int)) = some (HO.tup ((iN ((List.range fm.rows.length).filter fun s => !decide (s ∈ fm.good))).map V.int))
              rw [hf.rl]
            clear hu hL hD
            generalize upd H8 u (.tup ((iN ((List.range m).filter fun s => !decide (s ∈ fm.good))).map V.int)) = H9 at s9 hu9 ⊢
            have tf9 := tf7.mono (Same.tk s9)
            have no := neat_f (opp_ok hf)
            refine ⟨_, rfl, .ref ft, fm, m, rfl, tf9, hf, fun v1 H10 s10 tv1 => ⟨_, (oppF fm).d, 3, 2000, rfl, tv1.dp, no, by decide, by decide, ?_⟩⟩
            have s710 := Same.trans s9 s10
            have hf10 := s710 _ _ h1
            refine ⟨_, rfl, ft, _, _, _, rfl, rfl, SqT.of hf10, atI_nat (j := 0) rfl, _, rfl, ft, _, _, _, rfl, rfl, SqT.of hf10, atI_nat (j := 1) rfl, _, rfl, (by show 3 ≤ sizeLine; decide), fun q hq => ?_⟩
            have s711 := Same.trans s710 (same_new (o := .tup [vg, .ref ra, .ref u]) hq)
            refine ⟨_, (oppF fm).d, 3, 2000, rfl, ?_, no, by decide, by decide, ?_⟩
            · have tr : Tp H7 (.ref ra) (.tuple (fm.rows.map wordD)) := .tup r1 r2
              have tq : Tp (upd H10 q (.tup [vg, .ref ra, .ref u])) (.ref q) (oppF fm).d := .tup upd_same (.cons (tg.mono (Same.tk s711)) (.cons (tr.mono (Same.tk s711)) (.cons (tp_word (same_new hq _ _ (s10 _ _ hu9))) .nil)))
              exact tq.dp
            generalize (oppF fm).d.shown = os
            refine ⟨rfl, _, rfl, iteF' (sameF _) ?_⟩
            generalize upd H10 q (.tup [vg, .ref ra, .ref u]) = H11 at s711 ⊢
            have tf11 := tf7.mono (Same.tk s711)
            have sf := shapF (neat_f hf) (by decide)
            refine ⟨_, rfl, .ref ft, fm, m, rfl, tf11, hf, fun v2 H12 s12 tv2 => ⟨v2, oppF fm, m, rfl, tv2, opp_ok hf, fun v3 H13 s13 tv3 => ?_⟩⟩
            rw [opp_opp hf] at tv3
            have s713 := Same.trans (Same.trans s711 s12) s13
            refine ⟨_, rfl, fm.d, fm.d, tv3.dp, (tf7.mono (Same.tk s713)).dp, sf, sf, _, rfl, iteF' (ne_form _) ?_⟩
            have k13 := k7.same s713
            refine ⟨_, rfl, _, rfl, p, c, 2, rfl, k13.pen, by decide, by decide, fun d H14 d0 d1 k14 => ?_⟩
            obtain ⟨kk, hk⟩ : ∃ kk : Nat, 1 + d = (kk : Int) := ⟨(1 + d).toNat, by omega⟩
            refine ⟨_, _, rfl, rfl, p, c, kk, 2, 3, (by show [V.ref p, V.int (1 + d), V.int 2, V.int 3] = [V.ref p, V.int (kk : Int), V.int 2, V.int 3]; rw [hk]), k14.pen, by omega, by decide, by decide, by decide, by decide, fun W Sw Bw wt H15 q1 q2 q3 q4 hW k15 tw => ?_⟩
            have k615 := (k13.trans k14).trans k15
            have tf15 := tf.mono (k615.tk k6.pen)
            refine ⟨_, rfl, _, rfl, .ref wt, .ref ft, fm, W, m, kk, Sw, Bw, rfl, tw, hW, q4, tf15, hf, fun H16 s16 => ⟨_, .bool (fitB m Bw), 0, 0, rfl, .bl _, neat_bool _, by decide, by decide, ?_⟩⟩
            refine ⟨_, rfl, _, rfl, .ref wt, .ref ft, fm, W, m, kk, Sw, Bw, rfl, tw.mono (Same.tk s16), hW, q4, tf15.mono (Same.tk s16), hf, fun H17 s17 => ⟨_, .bool (fitB m Bw), 0, 0, rfl, .bl _, neat_bool _, by decide, by decide, ?_⟩⟩
            generalize (PyData.bool (fitB m Bw)).shown = bs
            refine ⟨rfl, _, rfl, iteF' (sameF _) ?_⟩
            exact ⟨⟨_, _, _, _, _, _, _, _, _, _, _, rfl⟩, (k615.same (Same.trans s16 s17)).pen⟩
      · rintro σ H5 ⟨⟨v2, v3, v4, v5, v6, v7, v8, v9, v10, v11, v12, rfl⟩, hP5⟩
        exact k _
end

/-! ### what the top has written, the head -/
theorem all_mk {l : PySem.W.OpenLaw} {w : World} {K : PySem.W.Frag} {h : Heap} {mg : Str → Option Value} {fa f0 f1 f2 f3 f4 f5 f6 f7 f8 f9 f10 f11 f12 f13 f14 f15 f16 f17 f18 f19 f20 f21 f22 f23 f24 : Addr} (X : K.In h) (G : h.Ns mainGlobals mg) (named : mg "law" = some (.ref fa))
    {od0 an0 od1 an1 od2 an2 od3 an3 od4 an4 od5 an5 od6 an6 od7 an7 od8 an8 od9 an9 od10 an10 od11 an11 od12 an12 od13 an13 od14 an14 od15 an15 od16 an16 od17 an17 od18 an18 od19 an19 od20 an20 od21 an21 od22 an22 od23 an23 od24 an24 : Option Addr} {sl0 sl1 sl2 sl3 sl4 sl5 sl6 sl7 sl8 sl9 sl10 sl11 sl12 sl13 sl14 sl15 sl16 sl17 sl18 sl19 sl20 sl21 sl22 sl23 sl24 : Array (Option Value)} {oc0 kV0 dc0 pm0 cd0 ct0 oc1 kV1 dc1 pm1 cd1 ct1 oc2 kV2 dc2 pm2 cd2 ct2 oc3 kV3 dc3 pm3 cd3 ct3 oc4 kV4 dc4 pm4 cd4 ct4 oc5 kV5 dc5 pm5 cd5 ct5 oc6 kV6 dc6 pm6 cd6 ct6 oc7 kV7 dc7 pm7 cd7 ct7 oc8 kV8 dc8 pm8 cd8 ct8 oc9 kV9 dc9 pm9 cd9 ct9 oc10 kV10 dc10 pm10 cd10 ct10 oc11 kV11 dc11 pm11 cd11 ct11 oc12 kV12 dc12 pm12 cd12 ct12 oc13 kV13 dc13 pm13 cd13 ct13 oc14 kV14 dc14 pm14 cd14 ct14 oc15 kV15 dc15 pm15 cd15 ct15 oc16 kV16 dc16 pm16 cd16 ct16 oc17 kV17 dc17 pm17 cd17 ct17 oc18 kV18 dc18 pm18 cd18 ct18 oc19 kV19 dc19 pm19 cd19 ct19 oc20 kV20 dc20 pm20 cd20 ct20 oc21 kV21 dc21 pm21 cd21 ct21 oc22 kV22 dc22 pm22 cd22 ct22 oc23 kV23 dc23 pm23 cd23 ct23 oc24 kV24 dc24 pm24 cd24 ct24 : Value}
    (a0 : PySem.W.nsIn K mainGlobals "power_of" = some (some (.ref f0))) (l0 : K.lookup f0 = some ⟨oc0, od0, .func (PySem.W.fnOf "power_of" "power_of" (C8.fnArgs st_power_of_) (fnBody st_power_of_) (fnScope st_power_of_) .none kV0 dc0 pm0 an0 cd0 ct0), sl0⟩) (c0 : PySem.W.codeIn K cd0 "power_of" = true) (k0 : PySem.W.keepIn K (.ref f0) = true)
    (a1 : PySem.W.nsIn K mainGlobals "effect" = some (some (.ref f1))) (l1 : K.lookup f1 = some ⟨oc1, od1, .func (PySem.W.fnOf "effect" "effect" (C8.fnArgs st_effect_) (fnBody st_effect_) (fnScope st_effect_) .none kV1 dc1 pm1 an1 cd1 ct1), sl1⟩) (c1 : PySem.W.codeIn K cd1 "effect" = true) (k1 : PySem.W.keepIn K (.ref f1) = true)
    (a2 : PySem.W.nsIn K mainGlobals "accepts" = some (some (.ref f2))) (l2 : K.lookup f2 = some ⟨oc2, od2, .func (PySem.W.fnOf "accepts" "accepts" (C8.fnArgs st_accepts_) (fnBody st_accepts_) (fnScope st_accepts_) .none kV2 dc2 pm2 an2 cd2 ct2), sl2⟩) (c2 : PySem.W.codeIn K cd2 "accepts" = true) (k2 : PySem.W.keepIn K (.ref f2) = true)
    (a3 : PySem.W.nsIn K mainGlobals "opposite" = some (some (.ref f3))) (l3 : K.lookup f3 = some ⟨oc3, od3, .func (PySem.W.fnOf "opposite" "opposite" (C8.fnArgs st_opposite_) (fnBody st_opposite_) (fnScope st_opposite_) .none kV3 dc3 pm3 an3 cd3 ct3), sl3⟩) (c3 : PySem.W.codeIn K cd3 "opposite" = true) (k3 : PySem.W.keepIn K (.ref f3) = true)
    (a4 : PySem.W.nsIn K mainGlobals "form_fits" = some (some (.ref f4))) (l4 : K.lookup f4 = some ⟨oc4, od4, .func (PySem.W.fnOf "form_fits" "form_fits" (C8.fnArgs st_form_fits_) (fnBody st_form_fits_) (fnScope st_form_fits_) .none kV4 dc4 pm4 an4 cd4 ct4), sl4⟩) (c4 : PySem.W.codeIn K cd4 "form_fits" = true) (k4 : PySem.W.keepIn K (.ref f4) = true)
    (a5 : PySem.W.nsIn K mainGlobals "_place_of" = some (some (.ref f5))) (l5 : K.lookup f5 = some ⟨oc5, od5, .func (PySem.W.fnOf "_place_of" "_place_of" (C8.fnArgs st_place_of) (fnBody st_place_of) (fnScope st_place_of) .none kV5 dc5 pm5 an5 cd5 ct5), sl5⟩) (c5 : PySem.W.codeIn K cd5 "_place_of" = true) (k5 : PySem.W.keepIn K (.ref f5) = true)
    (a6 : PySem.W.nsIn K mainGlobals "_law_pen" = some (some (.ref f6))) (l6 : K.lookup f6 = some ⟨oc6, od6, .func (PySem.W.fnOf "_law_pen" "_law_pen" (C8.fnArgs st_law_pen) (fnBody st_law_pen) (fnScope st_law_pen) .none kV6 dc6 pm6 an6 cd6 ct6), sl6⟩) (c6 : PySem.W.codeIn K cd6 "_law_pen" = true) (k6 : PySem.W.keepIn K (.ref f6) = true)
    (a7 : PySem.W.nsIn K mainGlobals "_law_fresh" = some (some (.ref f7))) (l7 : K.lookup f7 = some ⟨oc7, od7, .func (PySem.W.fnOf "_law_fresh" "_law_fresh" (C8.fnArgs st_law_fresh) (fnBody st_law_fresh) (fnScope st_law_fresh) .none kV7 dc7 pm7 an7 cd7 ct7), sl7⟩) (c7 : PySem.W.codeIn K cd7 "_law_fresh" = true) (k7 : PySem.W.keepIn K (.ref f7) = true)
    (a8 : PySem.W.nsIn K mainGlobals "_law_draw" = some (some (.ref f8))) (l8 : K.lookup f8 = some ⟨oc8, od8, .func (PySem.W.fnOf "_law_draw" "_law_draw" (C8.fnArgs st_law_draw) (fnBody st_law_draw) (fnScope st_law_draw) .none kV8 dc8 pm8 an8 cd8 ct8), sl8⟩) (c8 : PySem.W.codeIn K cd8 "_law_draw" = true) (k8 : PySem.W.keepIn K (.ref f8) = true)
    (a9 : PySem.W.nsIn K mainGlobals "_law_one_of" = some (some (.ref f9))) (l9 : K.lookup f9 = some ⟨oc9, od9, .func (PySem.W.fnOf "_law_one_of" "_law_one_of" (C8.fnArgs st_law_one_of) (fnBody st_law_one_of) (fnScope st_law_one_of) .none kV9 dc9 pm9 an9 cd9 ct9), sl9⟩) (c9 : PySem.W.codeIn K cd9 "_law_one_of" = true) (k9 : PySem.W.keepIn K (.ref f9) = true)
    (a10 : PySem.W.nsIn K mainGlobals "_law_piece" = some (some (.ref f10))) (l10 : K.lookup f10 = some ⟨oc10, od10, .func (PySem.W.fnOf "_law_piece" "_law_piece" (C8.fnArgs st_law_piece) (fnBody st_law_piece) (fnScope st_law_piece) .none kV10 dc10 pm10 an10 cd10 ct10), sl10⟩) (c10 : PySem.W.codeIn K cd10 "_law_piece" = true) (k10 : PySem.W.keepIn K (.ref f10) = true)
    (a11 : PySem.W.nsIn K mainGlobals "_law_normal" = some (some (.ref f11))) (l11 : K.lookup f11 = some ⟨oc11, od11, .func (PySem.W.fnOf "_law_normal" "_law_normal" (C8.fnArgs st_law_normal) (fnBody st_law_normal) (fnScope st_law_normal) .none kV11 dc11 pm11 an11 cd11 ct11), sl11⟩) (c11 : PySem.W.codeIn K cd11 "_law_normal" = true) (k11 : PySem.W.keepIn K (.ref f11) = true)
    (a12 : PySem.W.nsIn K mainGlobals "_law_fill" = some (some (.ref f12))) (l12 : K.lookup f12 = some ⟨oc12, od12, .func (PySem.W.fnOf "_law_fill" "_law_fill" (C8.fnArgs st_law_fill) (fnBody st_law_fill) (fnScope st_law_fill) .none kV12 dc12 pm12 an12 cd12 ct12), sl12⟩) (c12 : PySem.W.codeIn K cd12 "_law_fill" = true) (k12 : PySem.W.keepIn K (.ref f12) = true)
    (a13 : PySem.W.nsIn K mainGlobals "_law_fills" = some (some (.ref f13))) (l13 : K.lookup f13 = some ⟨oc13, od13, .func (PySem.W.fnOf "_law_fills" "_law_fills" (C8.fnArgs st_law_fills) (fnBody st_law_fills) (fnScope st_law_fills) .none kV13 dc13 pm13 an13 cd13 ct13), sl13⟩) (c13 : PySem.W.codeIn K cd13 "_law_fills" = true) (k13 : PySem.W.keepIn K (.ref f13) = true)
    (a14 : PySem.W.nsIn K mainGlobals "_law_end" = some (some (.ref f14))) (l14 : K.lookup f14 = some ⟨oc14, od14, .func (PySem.W.fnOf "_law_end" "_law_end" (C8.fnArgs st_law_end) (fnBody st_law_end) (fnScope st_law_end) .none kV14 dc14 pm14 an14 cd14 ct14), sl14⟩) (c14 : PySem.W.codeIn K cd14 "_law_end" = true) (k14 : PySem.W.keepIn K (.ref f14) = true)
    (a15 : PySem.W.nsIn K mainGlobals "_law_writer" = some (some (.ref f15))) (l15 : K.lookup f15 = some ⟨oc15, od15, .func (PySem.W.fnOf "_law_writer" "_law_writer" (C8.fnArgs st_law_writer) (fnBody st_law_writer) (fnScope st_law_writer) .none kV15 dc15 pm15 an15 cd15 ct15), sl15⟩) (c15 : PySem.W.codeIn K cd15 "_law_writer" = true) (k15 : PySem.W.keepIn K (.ref f15) = true)
    (a16 : PySem.W.nsIn K mainGlobals "_law_groups" = some (some (.ref f16))) (l16 : K.lookup f16 = some ⟨oc16, od16, .func (PySem.W.fnOf "_law_groups" "_law_groups" (C8.fnArgs st_law_groups) (fnBody st_law_groups) (fnScope st_law_groups) .none kV16 dc16 pm16 an16 cd16 ct16), sl16⟩) (c16 : PySem.W.codeIn K cd16 "_law_groups" = true) (k16 : PySem.W.keepIn K (.ref f16) = true)
    (a17 : PySem.W.nsIn K mainGlobals "_law_form" = some (some (.ref f17))) (l17 : K.lookup f17 = some ⟨oc17, od17, .func (PySem.W.fnOf "_law_form" "_law_form" (C8.fnArgs st_law_form) (fnBody st_law_form) (fnScope st_law_form) .none kV17 dc17 pm17 an17 cd17 ct17), sl17⟩) (c17 : PySem.W.codeIn K cd17 "_law_form" = true) (k17 : PySem.W.keepIn K (.ref f17) = true)
    (a18 : PySem.W.nsIn K mainGlobals "_law_read" = some (some (.ref f18))) (l18 : K.lookup f18 = some ⟨oc18, od18, .func (PySem.W.fnOf "_law_read" "_law_read" (C8.fnArgs st_law_read) (fnBody st_law_read) (fnScope st_law_read) .none kV18 dc18 pm18 an18 cd18 ct18), sl18⟩) (c18 : PySem.W.codeIn K cd18 "_law_read" = true) (k18 : PySem.W.keepIn K (.ref f18) = true)
    (a19 : PySem.W.nsIn K mainGlobals "_law_effect" = some (some (.ref f19))) (l19 : K.lookup f19 = some ⟨oc19, od19, .func (PySem.W.fnOf "_law_effect" "_law_effect" (C8.fnArgs st_law_effect) (fnBody st_law_effect) (fnScope st_law_effect) .none kV19 dc19 pm19 an19 cd19 ct19), sl19⟩) (c19 : PySem.W.codeIn K cd19 "_law_effect" = true) (k19 : PySem.W.keepIn K (.ref f19) = true)
    (a20 : PySem.W.nsIn K mainGlobals "_law_letters" = some (some (.ref f20))) (l20 : K.lookup f20 = some ⟨oc20, od20, .func (PySem.W.fnOf "_law_letters" "_law_letters" (C8.fnArgs st_law_letters) (fnBody st_law_letters) (fnScope st_law_letters) .none kV20 dc20 pm20 an20 cd20 ct20), sl20⟩) (c20 : PySem.W.codeIn K cd20 "_law_letters" = true) (k20 : PySem.W.keepIn K (.ref f20) = true)
    (a21 : PySem.W.nsIn K mainGlobals "_law_are_read" = some (some (.ref f21))) (l21 : K.lookup f21 = some ⟨oc21, od21, .func (PySem.W.fnOf "_law_are_read" "_law_are_read" (C8.fnArgs st_law_are_read) (fnBody st_law_are_read) (fnScope st_law_are_read) .none kV21 dc21 pm21 an21 cd21 ct21), sl21⟩) (c21 : PySem.W.codeIn K cd21 "_law_are_read" = true) (k21 : PySem.W.keepIn K (.ref f21) = true)
    (a22 : PySem.W.nsIn K mainGlobals "_law_does_fit" = some (some (.ref f22))) (l22 : K.lookup f22 = some ⟨oc22, od22, .func (PySem.W.fnOf "_law_does_fit" "_law_does_fit" (C8.fnArgs st_law_does_fit) (fnBody st_law_does_fit) (fnScope st_law_does_fit) .none kV22 dc22 pm22 an22 cd22 ct22), sl22⟩) (c22 : PySem.W.codeIn K cd22 "_law_does_fit" = true) (k22 : PySem.W.keepIn K (.ref f22) = true)
    (a23 : PySem.W.nsIn K mainGlobals "_law_long_is_right" = some (some (.ref f23))) (l23 : K.lookup f23 = some ⟨oc23, od23, .func (PySem.W.fnOf "_law_long_is_right" "_law_long_is_right" (C8.fnArgs st_law_long_is_right) (fnBody st_law_long_is_right) (fnScope st_law_long_is_right) .none kV23 dc23 pm23 an23 cd23 ct23), sl23⟩) (c23 : PySem.W.codeIn K cd23 "_law_long_is_right" = true) (k23 : PySem.W.keepIn K (.ref f23) = true)
    (a24 : PySem.W.nsIn K mainGlobals "law" = some (some (.ref f24))) (l24 : K.lookup f24 = some ⟨oc24, od24, .func (PySem.W.fnOf "law" "law" (C8.fnArgs st_law_) (fnBody st_law_) (fnScope st_law_) .none kV24 dc24 pm24 an24 cd24 ct24), sl24⟩) (c24 : PySem.W.codeIn K cd24 "law" = true) (k24 : PySem.W.keepIn K (.ref f24) = true)
    {t_MOST_EFFECTS : Tok} (s_MOST_EFFECTS : PySem.W.nsIn K mainGlobals "MOST_EFFECTS" = some (some (.int 1000 t_MOST_EFFECTS)))
    (z_list : PySem.W.nsIn K mainGlobals "list" = some none)
    (z_int : PySem.W.nsIn K mainGlobals "int" = some none)
    (z_len : PySem.W.nsIn K mainGlobals "len" = some none)
    (z_range : PySem.W.nsIn K mainGlobals "range" = some none)
    (z_tuple : PySem.W.nsIn K mainGlobals "tuple" = some none)
    (z_isinstance : PySem.W.nsIn K mainGlobals "isinstance" = some none)
    (z_str : PySem.W.nsIn K mainGlobals "str" = some none)
    (z_repr : PySem.W.nsIn K mainGlobals "repr" = some none)
    (z_max : PySem.W.nsIn K mainGlobals "max" = some none)
    (z_min : PySem.W.nsIn K mainGlobals "min" = some none)
    (z_abs : PySem.W.nsIn K mainGlobals "abs" = some none)
    (z_enumerate : PySem.W.nsIn K mainGlobals "enumerate" = some none) :
    ∃ fd : FuncData, (∀ (s : Shared) (u : Value), BindsTo s fd ⟨[u], []⟩ [("script", u)]) ∧ ∀ base : Heap, K.In base → base.Ns mainGlobals mg → FnG l.prog w K mg base 8 fa fd ["script"] (spLaw K) := by
  have e := named.symm.trans (PySem.W.mg_of X G a24)
  cases e
  have F0 : C8.Fun K "power_of" "power_of" st_power_of_ f0 _ := ⟨⟨_, _, _, _, _, _, _, _, _, _, rfl, l0, c0⟩⟩
  have Dpower_of : C8.Def K mg "power_of" st_power_of_ f0 _ := ⟨F0, PySem.W.mg_of X G a0, k0⟩
  have bpower_of := F0.binds rfl (ps := ["base", "many"]) fun _ _ _ _ _ _ us hl => match us, hl with | [_, _], _ => rfl
  have F1 : C8.Fun K "effect" "effect" st_effect_ f1 _ := ⟨⟨_, _, _, _, _, _, _, _, _, _, rfl, l1, c1⟩⟩
  have Deffect : C8.Def K mg "effect" st_effect_ f1 _ := ⟨F1, PySem.W.mg_of X G a1, k1⟩
  have beffect := F1.binds rfl (ps := ["form", "text"]) fun _ _ _ _ _ _ us hl => match us, hl with | [_, _], _ => rfl
  have F2 : C8.Fun K "accepts" "accepts" st_accepts_ f2 _ := ⟨⟨_, _, _, _, _, _, _, _, _, _, rfl, l2, c2⟩⟩
  have Daccepts : C8.Def K mg "accepts" st_accepts_ f2 _ := ⟨F2, PySem.W.mg_of X G a2, k2⟩
  have baccepts := F2.binds rfl (ps := ["form", "text"]) fun _ _ _ _ _ _ us hl => match us, hl with | [_, _], _ => rfl
  have F3 : C8.Fun K "opposite" "opposite" st_opposite_ f3 _ := ⟨⟨_, _, _, _, _, _, _, _, _, _, rfl, l3, c3⟩⟩
  have Dopposite : C8.Def K mg "opposite" st_opposite_ f3 _ := ⟨F3, PySem.W.mg_of X G a3, k3⟩
  have bopposite := F3.binds rfl (ps := ["form"]) fun _ _ _ _ _ _ us hl => match us, hl with | [_], _ => rfl
  have F4 : C8.Fun K "form_fits" "form_fits" st_form_fits_ f4 _ := ⟨⟨_, _, _, _, _, _, _, _, _, _, rfl, l4, c4⟩⟩
  have Dform_fits : C8.Def K mg "form_fits" st_form_fits_ f4 _ := ⟨F4, PySem.W.mg_of X G a4, k4⟩
  have bform_fits := F4.binds rfl (ps := ["writer", "form"]) fun _ _ _ _ _ _ us hl => match us, hl with | [_, _], _ => rfl
  have F5 : C8.Fun K "_place_of" "_place_of" st_place_of f5 _ := ⟨⟨_, _, _, _, _, _, _, _, _, _, rfl, l5, c5⟩⟩
  have D_place_of : C8.Def K mg "_place_of" st_place_of f5 _ := ⟨F5, PySem.W.mg_of X G a5, k5⟩
  have b_place_of := F5.binds rfl (ps := ["groups", "letter"]) fun _ _ _ _ _ _ us hl => match us, hl with | [_, _], _ => rfl
  have F6 : C8.Fun K "_law_pen" "_law_pen" st_law_pen f6 _ := ⟨⟨_, _, _, _, _, _, _, _, _, _, rfl, l6, c6⟩⟩
  have D_law_pen : C8.Def K mg "_law_pen" st_law_pen f6 _ := ⟨F6, PySem.W.mg_of X G a6, k6⟩
  have b_law_pen := F6.binds rfl (ps := ["script"]) fun _ _ _ _ _ _ us hl => match us, hl with | [_], _ => rfl
  have F7 : C8.Fun K "_law_fresh" "_law_fresh" st_law_fresh f7 _ := ⟨⟨_, _, _, _, _, _, _, _, _, _, rfl, l7, c7⟩⟩
  have D_law_fresh : C8.Def K mg "_law_fresh" st_law_fresh f7 _ := ⟨F7, PySem.W.mg_of X G a7, k7⟩
  have b_law_fresh := F7.binds rfl (ps := ["pen"]) fun _ _ _ _ _ _ us hl => match us, hl with | [_], _ => rfl
  have F8 : C8.Fun K "_law_draw" "_law_draw" st_law_draw f8 _ := ⟨⟨_, _, _, _, _, _, _, _, _, _, rfl, l8, c8⟩⟩
  have D_law_draw : C8.Def K mg "_law_draw" st_law_draw f8 _ := ⟨F8, PySem.W.mg_of X G a8, k8⟩
  have b_law_draw := F8.binds rfl (ps := ["pen", "bound"]) fun _ _ _ _ _ _ us hl => match us, hl with | [_, _], _ => rfl
  have F9 : C8.Fun K "_law_one_of" "_law_one_of" st_law_one_of f9 _ := ⟨⟨_, _, _, _, _, _, _, _, _, _, rfl, l9, c9⟩⟩
  have D_law_one_of : C8.Def K mg "_law_one_of" st_law_one_of f9 _ := ⟨F9, PySem.W.mg_of X G a9, k9⟩
  have b_law_one_of := F9.binds rfl (ps := ["pen", "rows"]) fun _ _ _ _ _ _ us hl => match us, hl with | [_, _], _ => rfl
  have F10 : C8.Fun K "_law_piece" "_law_piece" st_law_piece f10 _ := ⟨⟨_, _, _, _, _, _, _, _, _, _, rfl, l10, c10⟩⟩
  have D_law_piece : C8.Def K mg "_law_piece" st_law_piece f10 _ := ⟨F10, PySem.W.mg_of X G a10, k10⟩
  have b_law_piece := F10.binds rfl (ps := ["pen", "most"]) fun _ _ _ _ _ _ us hl => match us, hl with | [_, _], _ => rfl
  have F11 : C8.Fun K "_law_normal" "_law_normal" st_law_normal f11 _ := ⟨⟨_, _, _, _, _, _, _, _, _, _, rfl, l11, c11⟩⟩
  have D_law_normal : C8.Def K mg "_law_normal" st_law_normal f11 _ := ⟨F11, PySem.W.mg_of X G a11, k11⟩
  have b_law_normal := F11.binds rfl (ps := ["parts"]) fun _ _ _ _ _ _ us hl => match us, hl with | [_], _ => rfl
  have F12 : C8.Fun K "_law_fill" "_law_fill" st_law_fill f12 _ := ⟨⟨_, _, _, _, _, _, _, _, _, _, rfl, l12, c12⟩⟩
  have D_law_fill : C8.Def K mg "_law_fill" st_law_fill f12 _ := ⟨F12, PySem.W.mg_of X G a12, k12⟩
  have b_law_fill := F12.binds rfl (ps := ["pen", "left", "own"]) fun _ _ _ _ _ _ us hl => match us, hl with | [_, _, _], _ => rfl
  have F13 : C8.Fun K "_law_fills" "_law_fills" st_law_fills f13 _ := ⟨⟨_, _, _, _, _, _, _, _, _, _, rfl, l13, c13⟩⟩
  have D_law_fills : C8.Def K mg "_law_fills" st_law_fills f13 _ := ⟨F13, PySem.W.mg_of X G a13, k13⟩
  have b_law_fills := F13.binds rfl (ps := ["pen", "buffers"]) fun _ _ _ _ _ _ us hl => match us, hl with | [_, _], _ => rfl
  have F14 : C8.Fun K "_law_end" "_law_end" st_law_end f14 _ := ⟨⟨_, _, _, _, _, _, _, _, _, _, rfl, l14, c14⟩⟩
  have D_law_end : C8.Def K mg "_law_end" st_law_end f14 _ := ⟨F14, PySem.W.mg_of X G a14, k14⟩
  have b_law_end := F14.binds rfl (ps := ["pen", "buffers"]) fun _ _ _ _ _ _ us hl => match us, hl with | [_, _], _ => rfl
  have F15 : C8.Fun K "_law_writer" "_law_writer" st_law_writer f15 _ := ⟨⟨_, _, _, _, _, _, _, _, _, _, rfl, l15, c15⟩⟩
  have D_law_writer : C8.Def K mg "_law_writer" st_law_writer f15 _ := ⟨F15, PySem.W.mg_of X G a15, k15⟩
  have b_law_writer := F15.binds rfl (ps := ["pen", "count", "states", "buffers"]) fun _ _ _ _ _ _ us hl => match us, hl with | [_, _, _, _], _ => rfl
  have F16 : C8.Fun K "_law_groups" "_law_groups" st_law_groups f16 _ := ⟨⟨_, _, _, _, _, _, _, _, _, _, rfl, l16, c16⟩⟩
  have D_law_groups : C8.Def K mg "_law_groups" st_law_groups f16 _ := ⟨F16, PySem.W.mg_of X G a16, k16⟩
  have b_law_groups := F16.binds rfl (ps := ["pen"]) fun _ _ _ _ _ _ us hl => match us, hl with | [_], _ => rfl
  have F17 : C8.Fun K "_law_form" "_law_form" st_law_form f17 _ := ⟨⟨_, _, _, _, _, _, _, _, _, _, rfl, l17, c17⟩⟩
  have D_law_form : C8.Def K mg "_law_form" st_law_form f17 _ := ⟨F17, PySem.W.mg_of X G a17, k17⟩
  have b_law_form := F17.binds rfl (ps := ["pen", "most"]) fun _ _ _ _ _ _ us hl => match us, hl with | [_, _], _ => rfl
  have F18 : C8.Fun K "_law_read" "_law_read" st_law_read f18 _ := ⟨⟨_, _, _, _, _, _, _, _, _, _, rfl, l18, c18⟩⟩
  have D_law_read : C8.Def K mg "_law_read" st_law_read f18 _ := ⟨F18, PySem.W.mg_of X G a18, k18⟩
  have b_law_read := F18.binds rfl (ps := ["form", "state", "text"]) fun _ _ _ _ _ _ us hl => match us, hl with | [_, _, _], _ => rfl
  have F19 : C8.Fun K "_law_effect" "_law_effect" st_law_effect f19 _ := ⟨⟨_, _, _, _, _, _, _, _, _, _, rfl, l19, c19⟩⟩
  have D_law_effect : C8.Def K mg "_law_effect" st_law_effect f19 _ := ⟨F19, PySem.W.mg_of X G a19, k19⟩
  have b_law_effect := F19.binds rfl (ps := ["form", "text"]) fun _ _ _ _ _ _ us hl => match us, hl with | [_, _], _ => rfl
  have F20 : C8.Fun K "_law_letters" "_law_letters" st_law_letters f20 _ := ⟨⟨_, _, _, _, _, _, _, _, _, _, rfl, l20, c20⟩⟩
  have D_law_letters : C8.Def K mg "_law_letters" st_law_letters f20 _ := ⟨F20, PySem.W.mg_of X G a20, k20⟩
  have b_law_letters := F20.binds rfl (ps := ["pen", "most"]) fun _ _ _ _ _ _ us hl => match us, hl with | [_, _], _ => rfl
  have F21 : C8.Fun K "_law_are_read" "_law_are_read" st_law_are_read f21 _ := ⟨⟨_, _, _, _, _, _, _, _, _, _, rfl, l21, c21⟩⟩
  have D_law_are_read : C8.Def K mg "_law_are_read" st_law_are_read f21 _ := ⟨F21, PySem.W.mg_of X G a21, k21⟩
  have b_law_are_read := F21.binds rfl (ps := ["form", "text"]) fun _ _ _ _ _ _ us hl => match us, hl with | [_, _], _ => rfl
  have F22 : C8.Fun K "_law_does_fit" "_law_does_fit" st_law_does_fit f22 _ := ⟨⟨_, _, _, _, _, _, _, _, _, _, rfl, l22, c22⟩⟩
  have D_law_does_fit : C8.Def K mg "_law_does_fit" st_law_does_fit f22 _ := ⟨F22, PySem.W.mg_of X G a22, k22⟩
  have b_law_does_fit := F22.binds rfl (ps := ["writer", "form"]) fun _ _ _ _ _ _ us hl => match us, hl with | [_, _], _ => rfl
  have F23 : C8.Fun K "_law_long_is_right" "_law_long_is_right" st_law_long_is_right f23 _ := ⟨⟨_, _, _, _, _, _, _, _, _, _, rfl, l23, c23⟩⟩
  have D_law_long_is_right : C8.Def K mg "_law_long_is_right" st_law_long_is_right f23 _ := ⟨F23, PySem.W.mg_of X G a23, k23⟩
  have b_law_long_is_right := F23.binds rfl (ps := ["cell"]) fun _ _ _ _ _ _ us hl => match us, hl with | [_], _ => rfl
  have F24 : C8.Fun K "law" "law" st_law_ _ _ := ⟨⟨_, _, _, _, _, _, _, _, _, _, rfl, l24, c24⟩⟩
  have m_list := PySem.W.mg_none_of X G z_list
  have m_int := PySem.W.mg_none_of X G z_int
  have m_len := PySem.W.mg_none_of X G z_len
  have m_range := PySem.W.mg_none_of X G z_range
  have m_tuple := PySem.W.mg_none_of X G z_tuple
  have m_isinstance := PySem.W.mg_none_of X G z_isinstance
  have m_str := PySem.W.mg_none_of X G z_str
  have m_repr := PySem.W.mg_none_of X G z_repr
  have m_max := PySem.W.mg_none_of X G z_max
  have m_min := PySem.W.mg_none_of X G z_min
  have m_abs := PySem.W.mg_none_of X G z_abs
  have m_enumerate := PySem.W.mg_none_of X G z_enumerate
  have B : BN2 mg := { list := m_list, int := m_int, len := m_len, range := m_range, tuple := m_tuple, isi := m_isinstance, str := m_str }
  refine ⟨PySem.W.fnOf "law" "law" (C8.fnArgs st_law_) (fnBody st_law_) (fnScope st_law_) .none kV24 dc24 pm24 an24 cd24 ct24, fun s u => .of_eq rfl, fun base _ _ => ?_⟩
  have cpen : Cal l.prog w K mg base 1 "_law_pen" (spPen K) [] := cal_pen D_law_pen b_law_pen B.toBN
  have cfresh : Cal l.prog w K mg base 1 "_law_fresh" spFresh [] := cal_fresh D_law_fresh b_law_fresh B.toBN
  have cdraw : Cal l.prog w K mg base 2 "_law_draw" spDraw [] := cal_draw D_law_draw b_law_draw B.toBN cfresh
  have cone : Cal l.prog w K mg base 3 "_law_one_of" (spOne K) [] := cal_one D_law_one_of b_law_one_of B.toBN cdraw
  have cpiece : Cal l.prog w K mg base 4 "_law_piece" spPiece [] := cal_piece D_law_piece b_law_piece B.toBN cdraw cone
  have cnormal : Cal l.prog w K mg base 1 "_law_normal" (spNormal K) [] := cal_normal D_law_normal b_law_normal B
  have cfill : Cal l.prog w K mg base 5 "_law_fill" spFill [] := cal_fill D_law_fill b_law_fill B cdraw cone cpiece cnormal
  have cfills : Cal l.prog w K mg base 6 "_law_fills" spFills [] := cal_fills D_law_fills b_law_fills B cdraw cfill
  have cend : Cal l.prog w K mg base 6 "_law_end" spEnd [] := cal_end D_law_end b_law_end B cdraw cfill
  have cwriter : Cal l.prog w K mg base 7 "_law_writer" spWriter [] := cal_writer D_law_writer b_law_writer B cdraw cpiece cfills cend
  have clet : Cal l.prog w K mg base 4 "_law_letters" spLetF [] := cal_letF D_law_letters b_law_letters B.toBN cdraw cone
  have cgr : Cal l.prog w K mg base 3 "_law_groups" spGroups [] := cal_groups D_law_groups b_law_groups B cdraw
  have cform : Cal l.prog w K mg base 4 "_law_form" spForm [] := cal_form D_law_form b_law_form B cdraw cgr
  have cplace : Cal l.prog w K mg base 1 "_place_of" spPlace [] := cal_place_of D_place_of b_place_of m_enumerate m_len
  have ceff : Cal l.prog w K mg base 2 "effect" spEffect [] := cal_effect Deffect beffect B cplace
  have cacc : Cal l.prog w K mg base 3 "accepts" spAccepts [] := cal_accepts Daccepts baccepts ceff
  have copp : Cal l.prog w K mg base 1 "opposite" spOpposite [] := cal_opposite Dopposite bopposite B
  have cpow : Cal l.prog w K mg base 1 "power_of" spPowB [] := cal_powB Dpower_of bpower_of
  have cfit : Cal l.prog w K mg base 2 "form_fits" spFits [] := cal_fits Dform_fits bform_fits B (PySem.W.mg_of X G s_MOST_EFFECTS) cpow
  have clfit : Cal l.prog w K mg base 1 "_law_does_fit" spFits [] := cal_lfits D_law_does_fit b_law_does_fit B
  have cread : Cal l.prog w K mg base 1 "_law_read" spRead [] := cal_read D_law_read b_law_read B m_enumerate
  have cleff : Cal l.prog w K mg base 2 "_law_effect" spEffect [] := cal_leffect D_law_effect b_law_effect B cread
  have clong : Cal l.prog w K mg base 4 "_law_long_is_right" spLong [] := cal_long D_law_long_is_right b_law_long_is_right B ceff cacc
  have car : CalG l.prog w K mg base 4 "_law_are_read" spAreRead := ⟨_, _, _, fn_areread F21 m_repr ceff cacc copp cread cleff, PySem.W.mg_of X G a21, k21, b_law_are_read⟩
  exact fn_law F24 B m_repr m_max m_min m_abs clong cpen cform clet car ceff copp cdraw cwriter cfit clfit
end Toy

open PySem PySem.W PyProof.Rows in
set_option maxRecDepth 100000 in
set_option maxHeartbeats 0 in
theorem PySem.Challenge.cw_fewtests_k36_effects_of_forms_holds : PySem.Challenge.rw_fewtests_k36_effects_of_forms.Holds := by
  w_on; o_law; k_head; (case hw => w_witness2)
  k_fill
  refine Toy.walkG (l := PySem.Challenge.rw_fewtests_k36_effects_of_forms) (k := 8) (sp := Toy.spLaw) (x := "script") rfl rfl ⟨rfl, by decide, by decide⟩ (fun w h Y => PySem.W.kIn_of Y) ?F (fun K H a ns few sq => ⟨a, ns, rfl, sq, fun _ => rfl⟩)
  case F =>
    intro w mg fa h KX G hmg
    refine' Toy.all_mk KX G hmg ?a0 ?l0 ?c0 ?k0 ?a1 ?l1 ?c1 ?k1 ?a2 ?l2 ?c2 ?k2 ?a3 ?l3 ?c3 ?k3 ?a4 ?l4 ?c4 ?k4 ?a5 ?l5 ?c5 ?k5 ?a6 ?l6 ?c6 ?k6 ?a7 ?l7 ?c7 ?k7 ?a8 ?l8 ?c8 ?k8 ?a9 ?l9 ?c9 ?k9 ?a10 ?l10 ?c10 ?k10 ?a11 ?l11 ?c11 ?k11 ?a12 ?l12 ?c12 ?k12 ?a13 ?l13 ?c13 ?k13 ?a14 ?l14 ?c14 ?k14 ?a15 ?l15 ?c15 ?k15 ?a16 ?l16 ?c16 ?k16 ?a17 ?l17 ?c17 ?k17 ?a18 ?l18 ?c18 ?k18 ?a19 ?l19 ?c19 ?k19 ?a20 ?l20 ?c20 ?k20 ?a21 ?l21 ?c21 ?k21 ?a22 ?l22 ?c22 ?k22 ?a23 ?l23 ?c23 ?k23 ?a24 ?l24 ?c24 ?k24 ?s_MOST_EFFECTS ?z_list ?z_int ?z_len ?z_range ?z_tuple ?z_isinstance ?z_str ?z_repr ?z_max ?z_min ?z_abs ?z_enumerate
    (case a0 => k_is)
    (case l0 => k_is)
    (case c0 => k_is)
    (case k0 => k_is)
    (case a1 => k_is)
    (case l1 => k_is)
    (case c1 => k_is)
    (case k1 => k_is)
    (case a2 => k_is)
    (case l2 => k_is)
    (case c2 => k_is)
    (case k2 => k_is)
    (case a3 => k_is)
    (case l3 => k_is)
    (case c3 => k_is)
    (case k3 => k_is)
    (case a4 => k_is)
    (case l4 => k_is)
    (case c4 => k_is)
    (case k4 => k_is)
    (case a5 => k_is)
    (case l5 => k_is)
    (case c5 => k_is)
    (case k5 => k_is)
    (case a6 => k_is)
    (case l6 => k_is)
    (case c6 => k_is)
    (case k6 => k_is)
    (case a7 => k_is)
    (case l7 => k_is)
    (case c7 => k_is)
    (case k7 => k_is)
    (case a8 => k_is)
    (case l8 => k_is)
    (case c8 => k_is)
    (case k8 => k_is)
    (case a9 => k_is)
    (case l9 => k_is)
    (case c9 => k_is)
    (case k9 => k_is)
    (case a10 => k_is)
    (case l10 => k_is)
    (case c10 => k_is)
    (case k10 => k_is)
    (case a11 => k_is)
    (case l11 => k_is)
    (case c11 => k_is)
    (case k11 => k_is)
    (case a12 => k_is)
    (case l12 => k_is)
    (case c12 => k_is)
    (case k12 => k_is)
    (case a13 => k_is)
    (case l13 => k_is)
    (case c13 => k_is)
    (case k13 => k_is)
    (case a14 => k_is)
    (case l14 => k_is)
    (case c14 => k_is)
    (case k14 => k_is)
    (case a15 => k_is)
    (case l15 => k_is)
    (case c15 => k_is)
    (case k15 => k_is)
    (case a16 => k_is)
    (case l16 => k_is)
    (case c16 => k_is)
    (case k16 => k_is)
    (case a17 => k_is)
    (case l17 => k_is)
    (case c17 => k_is)
    (case k17 => k_is)
    (case a18 => k_is)
    (case l18 => k_is)
    (case c18 => k_is)
    (case k18 => k_is)
    (case a19 => k_is)
    (case l19 => k_is)
    (case c19 => k_is)
    (case k19 => k_is)
    (case a20 => k_is)
    (case l20 => k_is)
    (case c20 => k_is)
    (case k20 => k_is)
    (case a21 => k_is)
    (case l21 => k_is)
    (case c21 => k_is)
    (case k21 => k_is)
    (case a22 => k_is)
    (case l22 => k_is)
    (case c22 => k_is)
    (case k22 => k_is)
    (case a23 => k_is)
    (case l23 => k_is)
    (case c23 => k_is)
    (case k23 => k_is)
    (case a24 => k_is)
    (case l24 => k_is)
    (case c24 => k_is)
    (case k24 => k_is)
    (case s_MOST_EFFECTS => k_is)
    (case z_list => k_is)
    (case z_int => k_is)
    (case z_len => k_is)
    (case z_range => k_is)
    (case z_tuple => k_is)
    (case z_isinstance => k_is)
    (case z_str => k_is)
    (case z_repr => k_is)
    (case z_max => k_is)
    (case z_min => k_is)
    (case z_abs => k_is)
    (case z_enumerate => k_is)
