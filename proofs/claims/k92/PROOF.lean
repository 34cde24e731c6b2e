import PyProof.Rows.All
import Wide.All
import OpenK.AllK
import Wide.FinOn
import PyProof.Draws
import PyProof.Rows.SortShellAny
import HandS.Codes
import HandS.Conv
import HandS.DictComp
import HandS.ExcValue
import HandS.Flow
import HandS.ForMost
import HandS.GenList
import HandS.GenYield
import HandS.IsInst
import HandS.RaiseMore
import HandS.Replace
import HandS.Star
import HandS.Strs
import HandS.Style
import HandS.TupAny
import HandS.TupMul
import HandS.Wide
import HandS.WideBits
import HandS.Zip
import KE.GoesEnum
import KE.GoesMore
import KE.GoesZip
import PySem.Challenge.RW_fewtests_k92_words_and_forms_written_and
set_option Elab.async false
set_option linter.all false
set_option maxRecDepth 100000
set_option maxHeartbeats 2000000
set_option pp.maxSteps 1500
set_option pp.deepTerms false
namespace Toy
open PySem L2
open C8 (Cal cal0 pe_c pss_cut fnScope fnBody fnScope_by)
/-! ### the text by places -/
def top (i : Nat) : Stmt := PySem.Challenge.pw_fewtests_k92_words_and_forms_written_and.main.body.getD i (.Pass ⟨0, 0, 0, 0⟩)
abbrev st_ascends_ : Stmt := top 1
abbrev stC_ParseError___init__ : Stmt := (C8.clsBody (top 3)).getD 0 (.Pass ⟨0, 0, 0, 0⟩)
abbrev st_are_groups_ : Stmt := top 8
abbrev st_is_group : Stmt := top 9
abbrev stC_WordsDraft___init__ : Stmt := (C8.clsBody (top 13)).getD 0 (.Pass ⟨0, 0, 0, 0⟩)
abbrev stC_WordsDraft_takes : Stmt := (C8.clsBody (top 13)).getD 1 (.Pass ⟨0, 0, 0, 0⟩)
abbrev stC_WordsDraft_is_whole : Stmt := (C8.clsBody (top 13)).getD 2 (.Pass ⟨0, 0, 0, 0⟩)
abbrev stC_WordsDraft_made : Stmt := (C8.clsBody (top 13)).getD 3 (.Pass ⟨0, 0, 0, 0⟩)
abbrev stC_FormDraft___init__ : Stmt := (C8.clsBody (top 14)).getD 0 (.Pass ⟨0, 0, 0, 0⟩)
abbrev stC_FormDraft_takes : Stmt := (C8.clsBody (top 14)).getD 1 (.Pass ⟨0, 0, 0, 0⟩)
abbrev stC_FormDraft_is_whole : Stmt := (C8.clsBody (top 14)).getD 2 (.Pass ⟨0, 0, 0, 0⟩)
abbrev stC_FormDraft_made : Stmt := (C8.clsBody (top 14)).getD 3 (.Pass ⟨0, 0, 0, 0⟩)
abbrev stC_FormDraft__takes_groups : Stmt := (C8.clsBody (top 14)).getD 4 (.Pass ⟨0, 0, 0, 0⟩)
abbrev stC_FormDraft__takes_row : Stmt := (C8.clsBody (top 14)).getD 5 (.Pass ⟨0, 0, 0, 0⟩)
abbrev stC_FormDraft__takes_good : Stmt := (C8.clsBody (top 14)).getD 6 (.Pass ⟨0, 0, 0, 0⟩)
abbrev st_numbers_of : Stmt := top 15
abbrev st_format_words_ : Stmt := top 17
abbrev st_format_form_ : Stmt := top 18
abbrev st_parse_words_ : Stmt := top 19
abbrev st_parse_form_ : Stmt := top 20
abbrev st_written : Stmt := top 21
abbrev st_read : Stmt := top 22
abbrev st_law_pen : Stmt := top 24
abbrev st_law_fresh : Stmt := top 25
abbrev st_law_draw : Stmt := top 26
abbrev st_law_one_of : Stmt := top 27
abbrev st_law_word : Stmt := top 28
abbrev st_law_line : Stmt := top 29
abbrev st_law_form : Stmt := top 30
abbrev st_law_form_text : Stmt := top 31
abbrev st_law_ : Stmt := top 32

theorem iteT' {b : Bool} {A B : Prop} (e : b = true) (h : A) : if b = true then A else B := by
  rw [if_pos e]
  exact h
theorem iteF' {b : Bool} {A B : Prop} (e : b = false) (h : B) : if b = true then A else B := by
  rw [e]
  exact iteF h
/-! ### the pen -/
/-- the pen at p: cells at c (some ints), a place, what is left -/
def Pen (H : Hp) (p c : Addr) : Prop := ∃ (ns : List Int) (i j : Int), H p = some (.lst [.ref c, .int i, .int j]) ∧ H c = some (.lst (ns.map V.int))
theorem pen_ne {H : Hp} {p c : Addr} {ns : List Int} {i j : Int} (h : H p = some (.lst [.ref c, .int i, .int j])) (h2 : H c = some (.lst (ns.map V.int))) : p ≠ c := by
  refine ne_of h h2 fun e => ?_
  injection e with e
  cases ns with
  | nil => cases e
  | cons a r =>
    rw [List.map_cons] at e
    injection e with e1 e2
    cases e1
/-- all but p stands as it stood, the pen at p stands -/
structure Kp (p c : Addr) (H H' : Hp) : Prop where
  but : ∀ b o, b ≠ p → H b = some o → H' b = some o
  pen : Pen H' p c
theorem Kp.rfl' {p c : Addr} {H : Hp} (h : Pen H p c) : Kp p c H H := ⟨fun _ _ _ e => e, h⟩
theorem Kp.trans {p c : Addr} {H H1 H2 : Hp} (a : Kp p c H H1) (b : Kp p c H1 H2) : Kp p c H H2 := ⟨fun x o n e => b.but x o n (a.but x o n e), b.pen⟩
theorem Pen.ne {H : Hp} {p c q : Addr} (h : Pen H p c) (hq : H q = none) : q ≠ p := by
  obtain ⟨ns, i, j, h1, _⟩ := h
  exact (ne_of_none h1 hq).symm
theorem Pen.neC {H : Hp} {p c q : Addr} (h : Pen H p c) (hq : H q = none) : q ≠ c := by
  obtain ⟨ns, i, j, _, h1⟩ := h
  exact (ne_of_none h1 hq).symm
theorem Pen.put {H : Hp} {p c q : Addr} {o : HO} (h : Pen H p c) (n1 : q ≠ p) (n2 : q ≠ c) : Pen (upd H q o) p c := by
  obtain ⟨ns, i, j, h1, h2⟩ := h
  exact ⟨ns, i, j, by rw [upd_ne n1.symm]; exact h1, by rw [upd_ne n2.symm]; exact h2⟩
theorem Pen.new {H : Hp} {p c q : Addr} {o : HO} (h : Pen H p c) (hq : H q = none) : Pen (upd H q o) p c := h.put (h.ne hq) (h.neC hq)
theorem Kp.new {H H' : Hp} {p c q : Addr} {o : HO} (h : Kp p c H H') (hq : H' q = none) : Kp p c H (upd H' q o) :=
  ⟨fun b u n e => by rw [upd_ne (ne_of_none (h.but b u n e) hq)]; exact h.but b u n e, h.pen.new hq⟩
/-- something made since is changed -/
theorem Kp.put {H H' : Hp} {p c q : Addr} {o : HO} (h : Kp p c H H') (hP : Pen H p c) (hq : H q = none) : Kp p c H (upd H' q o) :=
  ⟨fun b u n e => by rw [upd_ne (ne_of_none e hq)]; exact h.but b u n e, h.pen.put (hP.ne hq) (hP.neC hq)⟩
theorem Kp.free {H H' : Hp} {p c q : Addr} (h : Kp p c H H') (hq : H' q = none) : H q = none := by
  cases e : H q with
  | none => rfl
  | some o =>
    rw [h.but q o (h.pen.ne hq) e] at hq
    cases hq
theorem Kp.seqL {K : PySem.W.Frag} {p c a : Addr} {H H' : Hp} {xs : List V} (k : Kp p c H H') (n : a ≠ p) (h : SqL K H a xs) : SqL K H' a xs := by
  rcases h with (h | ⟨o, h⟩) | h
  · exact .inl (.inl (k.but _ _ n h))
  · exact .inl (.inr ⟨o, k.but _ _ n h⟩)
  · exact .inr h

/-- the built-in names that these defs read -/
structure BN (mg : Str → Option Value) : Prop where
  list : mg "list" = none
  int : mg "int" = none
  len : mg "len" = none
  range : mg "range" = none

def spPen (K : PySem.W.Frag) : Sp := fun vs H Q _ => ∃ (a : Addr) (ns : List Int), vs = [.ref a] ∧ SqL K H a (ns.map V.int) ∧
  ∀ H' p c, Same H H' → Pen H' p c → H p = none → Q (.ref p) H'
def spFresh : Sp := fun vs H Q _ => ∃ p c : Addr, vs = [.ref p] ∧ Pen H p c ∧ ∀ (z : Int) H', Kp p c H H' → Q (.int z) H'
/-- a number from 0 to b - 1 -/
def spDraw : Sp := fun vs H Q _ => ∃ (p c : Addr) (b : Int), vs = [.ref p, .int b] ∧ Pen H p c ∧ 0 < b ∧ b.natAbs.log2 < 9000 ∧
  ∀ (d : Int) H', 0 ≤ d → d < b → Kp p c H H' → Q (.int d) H'

theorem sc_pen : FnScope ["script"] ["script"] (fnScope st_law_pen) := fnScope_by (by decide +kernel)
theorem sc_fresh : FnScope ["pen", "place", "cells", "cell", "prime", "state", "found", "lap"] ["pen"] (fnScope st_law_fresh) := fnScope_by (by decide +kernel)
theorem sc_draw : FnScope ["pen", "bound", "digit"] ["pen", "bound"] (fnScope st_law_draw) := fnScope_by (by decide +kernel)

/-- a list of ints is data -/
theorem dp_ints {K : PySem.W.Frag} {H : Hp} : ∀ ns : List Int, DpAll K H (ns.map V.int) (ns.map PyData.int)
  | [] => .nil
  | n :: r => .cons (.int n) (dp_ints r)
theorem shaped_ints (ns : List Int) : SeqAt.shaped (.list (ns.map PyData.int)) = true := by
  have h : ∀ l : List Int, PyData.canLayAll0 (l.map PyData.int) = true ∧ PyData.depthAll (l.map PyData.int) = 0 := by
    intro l
    induction l with
    | nil => exact ⟨by simp only [List.map_nil, PyData.canLayAll0], by simp only [List.map_nil, PyData.depthAll]⟩
    | cons a r ih => exact ⟨by simp only [List.map_cons, PyData.canLayAll0, PyData.canLay0, ih.1, Bool.and_self], by simp only [List.map_cons, PyData.depthAll, PyData.depth, ih.2, Nat.max_self]⟩
  unfold SeqAt.shaped
  simp only [PyData.canLay0, PyData.depth, (h ns).1, (h ns).2, Bool.true_and]
  decide
theorem ints_ne_nil (ns : List Int) : (!PyData.eqv (.list (ns.map PyData.int)) (.list [])) = !ns.isEmpty := by
  cases ns with
  | nil => simp only [List.map_nil, PyData.eqv, PyData.eqvAll, List.isEmpty_nil]
  | cons a r => simp only [List.map_cons, PyData.eqv, PyData.eqvAll, List.isEmpty_cons]
theorem prime_ok : (-(2 ^ 64) < (2305843009213693951 : Int) ∧ (2305843009213693951 : Int) < 2 ^ 64) := by decide

section
variable {P : Program} {w : World} {K : PySem.W.Frag} {mg : Str → Option Value} {base : Heap} {f : Addr} {fd : FuncData}
theorem cal_pen (F : C8.Def K mg "_law_pen" st_law_pen f fd) (b : Binds K fd ["script"] []) (B : BN mg) : Cal P w K mg base 1 "_law_pen" (spPen K) [] := by
  refine cal0 F b .nil sc_pen (fun vs H Q E h => ?_) (fun cdv A outer s H vs Q E hr h => ?_)
  · obtain ⟨a, ns, rfl, _⟩ := h
    rfl
  · obtain ⟨a, ns, rfl, hS, k⟩ := h
    refine ⟨_, pss_one (ps_ret (pe_lst (pa_cons (pe_callTy call_list_of (by rfl) B.list (by decide +kernel) (pa_cons (pe_slice sl_list (pv 0) po_none (po_some pe_int)) pa_nil)) (pa_cons pe_int (pa_cons pe_int pa_nil))))), ?_⟩
    refine ⟨_, rfl, _, rfl, a, _, rfl, hS, fun p hp => ?_⟩
    refine ⟨p, _, rfl, .inl (SqL.of upd_same), fun l hl => ?_⟩
    refine ⟨(by show 3 ≤ sizeLine; decide), fun q hq => ?_⟩
    have hl0 : H l = none := by
      have n : l ≠ p := fun z => by
        rw [z, upd_same] at hl
        cases hl
      rw [upd_ne n] at hl
      exact hl
    have s1 : Same H (upd (upd H p (.lst (cutV (ns.map V.int) none (some 63)))) l (.lst (cutV (ns.map V.int) none (some 63)))) := fun b o e => by
      rw [upd_ne (ne_of_none e hl0), upd_ne (ne_of_none e hp)]
      exact e
    obtain ⟨ms, hms⟩ : ∃ ms : List Int, cutV (ns.map V.int) none (some 63) = ms.map V.int := by
      unfold cutV
      rw [← List.map_drop, ← List.map_take]
      exact ⟨_, rfl⟩
    refine k _ q l (fun b o e => ?_) ⟨ms, 0, 0, upd_same, ?_⟩ (s1.free hq)
    · rw [upd_ne (ne_of_none (s1 b o e) hq)]
      exact s1 b o e
    · have n : l ≠ q := fun z => by
        rw [← z, upd_same] at hq
        cases hq
      rw [upd_ne n, upd_same, hms]
theorem cal_fresh (F : C8.Def K mg "_law_fresh" st_law_fresh f fd) (b : Binds K fd ["pen"] []) (B : BN mg) : Cal P w K mg base 1 "_law_fresh" spFresh [] := by
  refine cal0 F b .nil sc_fresh (fun vs H Q E h => ?_) (fun cdv A outer s H vs Q E hr h => ?_)
  · obtain ⟨p, c, rfl, _⟩ := h
    rfl
  · obtain ⟨p, c, rfl, ⟨ns, i, j, hp, hc⟩, k⟩ := h
    have hpc := pen_ne hp hc
    refine ⟨_, pss_cons (ps_par (i := 1) (j := 2) rfl sc_fresh.nd rfl rfl (by decide) rfl rfl (pa_cons (pe_ix ix_list (pv 0) pe_int (fun _ _ => rfl)) (pa_cons (pe_ix ix_list (pv 0) pe_int (fun _ _ => rfl)) pa_nil)) (by rfl))
      (pss_cons (ps_asg (pe_op op_add (pv 1) pe_int) (pg_sub (pv 0) pe_int set_list))
      (pss_cut (ps_set (i := 3) sc_fresh.nd rfl (Or.inl rfl) (pe_ifExp (pt_cmpR (op_neD hr.units) (pv 2) (pe_lst pa_nil) (nomark _)) (pe_ix ix_list (pv 2) (pe_op op_mod (pe_callTy call_int1 (by rfl) B.int (by decide +kernel) (pa_cons (pv 1) pa_nil)) (pe_callB call_len_seq (by rfl) B.len PySem.boot_len (pa_cons (pv 2) pa_nil))) (fun _ _ => rfl)) pe_int))
      (pss_cut (ps_if (PW.pt (pw_and (pt_cmpR op_lt (pv 1) (pe_callB call_len_seq (by rfl) B.len PySem.boot_len (pa_cons (pv 2) pa_nil)) (nomark _)) (pw_and1 (pt_cmpR op_ge (pv 3) (pe_op op_pow pe_int pe_int) (nomark _))))) (pss_one (ps_ret (pe_op op_sub (pv 3) (pe_op op_pow pe_int pe_int)))) pss_nil)
      (pss_cons (ps_set (i := 4) sc_fresh.nd rfl (Or.inl rfl) pe_int)
      (pss_cons (ps_set (i := 5) sc_fresh.nd rfl (Or.inl rfl) (pe_op op_mod (pe_callTy call_int1 (by rfl) B.int (by decide +kernel) (pa_cons (pe_op op_add (pe_op op_add (pe_op op_mul (pv 3) pe_int) (pe_op op_mul pe_int (pv 1))) pe_int) pa_nil)) (pv 4)))
      (pss_cons (ps_set (i := 6) sc_fresh.nd rfl (Or.inl rfl) (pv 5))
      (pss_cons (ps_for PassesOwn.never rfl (pi_range1 rfl B.range (pa_cons pe_int pa_nil)) (pg_name (i := 7) sc_fresh.nd rfl (Or.inl rfl))
        (pss_cons (ps_set (i := 5) sc_fresh.nd rfl (Or.inl rfl) (pe_op op_mod (pe_callTy call_int1 (by rfl) B.int (by decide +kernel) (pa_cons (pe_op op_add (pe_op op_add (pe_op op_mul (pv 5) (pv 5)) (pe_op op_mul (pe_op op_mul pe_int (pe_op op_add (pv 7) pe_int)) (pe_op op_add (pv 1) pe_int))) (pv 3)) pa_nil)) (pv 4)))
        (pss_one (ps_set (i := 6) sc_fresh.nd rfl (Or.inl rfl) (pe_op op_add (pe_op op_mul (pv 6) (pv 4)) (pv 5))))))
      (pss_one (ps_ret (pv 6)))))))))), ?_⟩
    refine ⟨_, rfl, p, _, _, _, rfl, rfl, SqL.of hp, atI_nat (j := 1) rfl, _, rfl, p, _, _, _, rfl, rfl, SqL.of hp, atI_nat (j := 0) rfl, _, _, rfl, ?_⟩
    refine ⟨_, rfl, _, _, rfl, rfl, _, rfl, p, _, _, 1, rfl, rfl, hp, rfl, ?_⟩
    have hp1 : upd H p (.lst [.ref c, .int (i + 1), .int j]) p = some (.lst [.ref c, .int (i + 1), .int j]) := upd_same
    have hc1 : upd H p (.lst [.ref c, .int (i + 1), .int j]) c = some (.lst (ns.map V.int)) := by
      rw [upd_ne hpc.symm]
      exact hc
    have k1 : Kp p c H (upd H p (.lst [.ref c, .int (i + 1), .int j])) := ⟨fun b o n e => by rw [upd_ne n]; exact e, ns, i + 1, j, hp1, hc1⟩
    -- behind the third statement the cell is some number; a new empty list stands
    refine ⟨fun σ H' => (∃ z : Int, σ = [some (.ref p), some (.int i), some (.ref c), some (.int z), none, none, none, none]) ∧ Kp p c H H' ∧ H' c = some (.lst (ns.map V.int)), ?_, ?_⟩
    · refine ⟨_, rfl, Nat.zero_le _, fun q hq => ?_⟩
      have k2 : Kp p c H (upd (upd H p (.lst [.ref c, .int (i + 1), .int j])) q (.lst [])) := k1.new hq
      have hc2 : upd (upd H p (.lst [.ref c, .int (i + 1), .int j])) q (.lst []) c = some (.lst (ns.map V.int)) := by
        rw [upd_ne (ne_of_none hc1 hq)]
        exact hc1
      refine ⟨.list (ns.map PyData.int), .list [], .lst (SqL.of hc2) (dp_ints ns), .lst (SqL.of upd_same) .nil, shaped_ints ns, by decide, _, rfl, ?_⟩
      rw [ints_ne_nil]
      cases ns with
      | nil =>
        refine iteF ?_
        exact ⟨⟨0, rfl⟩, k2, hc2⟩
      | cons n r =>
        refine iteT ?_
        have hm : (0 : Int) ≤ i % (((n :: r).map V.int).length : Nat) ∧ i % (((n :: r).map V.int).length : Nat) < (((n :: r).map V.int).length : Nat) := by
          have h0 : (0 : Int) < (((n :: r).map V.int).length : Nat) := by
            rw [List.length_map, List.length_cons]
            omega
          exact ⟨Int.emod_nonneg _ (by omega), Int.emod_lt_of_pos _ h0⟩
        obtain ⟨u, hu⟩ : ∃ u : Nat, i % (((n :: r).map V.int).length : Nat) = (u : Int) := ⟨_, (Int.toNat_of_nonneg hm.1).symm⟩
        have hlt : u < (n :: r).length := by
          have q := hm.2
          rw [hu, List.length_map] at q
          omega
        refine ⟨_, rfl, _, rfl, .inl ⟨_, rfl, _, rfl, c, _, rfl, .inl (SqL.of hc2), _, _, rfl, rfl, ?_, c, _, _, .int ((n :: r)[u]), rfl, rfl, SqL.of hc2, ?_, ⟨_, rfl⟩, k2, hc2⟩⟩
        · rw [List.length_map, List.length_cons]
          omega
        · rw [hu]
          exact atI_nat (by rw [List.getElem?_map, List.getElem?_eq_getElem hlt]; rfl)
    · rintro σ H2 ⟨⟨z, rfl⟩, k2, hc2⟩
      refine ⟨fun σ H' => σ = [some (.ref p), some (.int i), some (.ref c), some (.int z), none, none, none, none] ∧ H' = H2, ?_, ?_⟩
      · refine ⟨_, rfl, _, rfl, c, _, rfl, .inl (SqL.of hc2), _, _, rfl, rfl, _, rfl, ?_⟩
        refine ite2 (fun _ => ?_) (fun _ => ?_)
        · refine ⟨_, rfl, _, _, rfl, rfl, ⟨by decide, by decide, by decide⟩, _, _, rfl, rfl, _, rfl, ?_⟩
          refine ite2 (fun _ => ?_) (fun _ => ?_)
          · exact ⟨_, rfl, _, _, rfl, rfl, ⟨by decide, by decide, by decide⟩, _, _, rfl, rfl, k _ _ k2⟩
          · exact ⟨rfl, rfl⟩
        · exact iteF ⟨rfl, rfl⟩
      · rintro σ H3 ⟨rfl, rfl⟩
        refine ⟨_, rfl, _, _, rfl, rfl, .inr ⟨by decide, by decide⟩, _, rfl, _, _, rfl, rfl, .inl ⟨by decide, by decide⟩, _, _, rfl, rfl, _, _, rfl, rfl, .inl ⟨_, rfl, ?_⟩⟩
        refine ⟨_, rfl, _, _, rfl, rfl, (by show (0 : Int) < 2305843009213693951; decide), ?_⟩
        refine ⟨_, rfl, ?_⟩
        refine ⟨6, rfl, by decide, by decide, for_range (n := 6) (fun _ σ H' => H' = H3 ∧ ∃ (st fo : Int) (v : Option V), 0 ≤ st ∧ st < 2305843009213693951 ∧ σ = [some (.ref p), some (.int i), some (.ref c), some (.int z), some (.int 2305843009213693951), some (.int st), some (.int fo), v]) ⟨rfl, _, _, _, Int.emod_nonneg _ (by decide), Int.emod_lt_of_pos _ (by decide), rfl⟩ ?_ ?_⟩
        · rintro i' σ H4 hi ⟨rfl, st, fo, v, h0, h1, rfl⟩
          refine ⟨_, rfl, _, rfl, _, _, rfl, rfl, .inl ⟨by omega, by omega⟩, _, rfl, _, _, rfl, rfl, _, _, rfl, rfl, .inl ⟨by decide, by decide⟩, _, rfl, _, _, rfl, rfl, _, _, rfl, rfl, .inl ⟨by omega, by omega⟩, _, _, rfl, rfl, _, rfl, _, _, rfl, rfl, .inl ⟨_, rfl, ?_⟩⟩
          refine ⟨_, rfl, _, _, rfl, rfl, (by show (0 : Int) < 2305843009213693951; decide), ?_⟩
          refine ⟨_, rfl, _, rfl, _, _, rfl, rfl, .inr prime_ok, _, rfl, _, _, rfl, rfl, ?_⟩
          exact ⟨rfl, _, _, _, Int.emod_nonneg _ (by decide), Int.emod_lt_of_pos _ (by decide), rfl⟩
        · rintro σ H4 ⟨rfl, st, fo, v, h0, h1, rfl⟩
          exact ⟨_, rfl, k _ _ k2⟩
theorem cal_draw (F : C8.Def K mg "_law_draw" st_law_draw f fd) (b : Binds K fd ["pen", "bound"] []) (B : BN mg) (Cf : Cal P w K mg base 1 "_law_fresh" spFresh []) : Cal P w K mg base 2 "_law_draw" spDraw [] := by
  refine cal0 F b .nil sc_draw (fun vs H Q E h => ?_) (fun cdv A outer s H vs Q E hr h => ?_)
  · obtain ⟨p, c, n, rfl, _⟩ := h
    rfl
  · obtain ⟨p, c, n, rfl, hP, h0, h9, k⟩ := h
    refine ⟨_, pss_cut (ps_if (pt_cmpR op_lt (pe_ix ix_list (pv 0) pe_int (fun _ _ => rfl)) (pv 1) (nomark _)) (pss_one (ps_asg (pe_c Cf hr (by decide) (by rfl) (pa_cons (pv 0) pa_nil)) (pg_sub (pv 0) pe_int set_list))) pss_nil)
      (pss_cons (ps_set (i := 2) sc_draw.nd rfl (Or.inl rfl) (pe_op op_mod (pe_callTy call_int1 (by rfl) B.int (by decide +kernel) (pa_cons (pe_ix ix_list (pv 0) pe_int (fun _ _ => rfl)) pa_nil)) (pv 1)))
      (pss_cons (ps_asg (pe_op op_fdivW (pe_callTy call_int1 (by rfl) B.int (by decide +kernel) (pa_cons (pe_ix ix_list (pv 0) pe_int (fun _ _ => rfl)) pa_nil)) (pv 1)) (pg_sub (pv 0) pe_int set_list))
      (pss_one (ps_ret (pv 2))))), ?_⟩
    refine ⟨fun σ H' => σ = [some (.ref p), some (.int n), none] ∧ Kp p c H H', ?_, ?_⟩
    · obtain ⟨ns, i, j, hp, hc⟩ := id hP
      refine ⟨_, rfl, p, _, _, _, rfl, rfl, SqL.of hp, atI_nat (j := 2) rfl, _, rfl, _, _, rfl, rfl, _, rfl, ?_⟩
      refine ite2 (fun _ => ?_) (fun _ => ?_)
      · refine ⟨_, rfl, p, c, rfl, hP, fun z H1 k1 => ?_⟩
        obtain ⟨ns1, i1, j1, hp1, hc1⟩ := k1.pen
        refine ⟨_, rfl, p, _, _, 2, rfl, rfl, hp1, rfl, rfl, k1.trans ⟨fun b o n e => by rw [upd_ne n]; exact e, ns1, i1, z, upd_same, ?_⟩⟩
        rw [upd_ne (pen_ne hp1 hc1).symm]
        exact hc1
      · exact ⟨rfl, Kp.rfl' hP⟩
    · rintro σ H1 ⟨rfl, k1⟩
      obtain ⟨ns, i, j, hp, hc⟩ := k1.pen
      refine ⟨_, rfl, p, _, _, _, rfl, rfl, SqL.of hp, atI_nat (j := 2) rfl, .inl ⟨_, rfl, _, rfl, _, _, rfl, rfl, h0, ?_⟩⟩
      refine ⟨_, rfl, p, _, _, _, rfl, rfl, SqL.of hp, atI_nat (j := 2) rfl, .inl ⟨_, rfl, _, rfl, _, _, rfl, rfl, ⟨h0, h9⟩, _, rfl, p, _, _, 2, rfl, rfl, hp, rfl, ?_⟩⟩
      refine ⟨_, rfl, k _ _ (Int.emod_nonneg _ (by omega)) (Int.emod_lt_of_pos _ h0) (k1.trans ⟨fun b o n e => by rw [upd_ne n]; exact e, ns, i, j / n, upd_same, ?_⟩)⟩
      rw [upd_ne (pen_ne hp hc).symm]
      exact hc
end

/-! ### one of some things; texts, words -/
/-- a part of a list that is not the pen, or a sign of a text -/
def spOne (K : PySem.W.Frag) : Sp := fun vs H Q _ => ∃ p c : Addr, Pen H p c ∧
  ((∃ (a : Addr) (xs : List V), vs = [.ref p, .ref a] ∧ a ≠ p ∧ SqL K H a xs ∧ 0 < xs.length ∧ xs.length < 1000 ∧ ∀ (x : V) H', x ∈ xs → Kp p c H H' → Q x H') ∨
   (∃ z : Str, vs = [.ref p, .str z] ∧ 0 < z.length ∧ z.length < 1000 ∧ ∀ (g : Nat) H', g ∈ z.cps.toList → Kp p c H H' → Q (.str ⟨#[g]⟩) H'))
theorem sc_one : FnScope ["pen", "rows"] ["pen", "rows"] (fnScope st_law_one_of) := fnScope_by (by decide +kernel)
theorem log_small {b : Int} (h0 : 0 < b) (h : b < 1000) : b.natAbs.log2 < 9000 := by
  have h1 : b.natAbs ≠ 0 := by omega
  rw [Nat.log2_lt h1]
  exact Nat.lt_of_lt_of_le (show b.natAbs < 2 ^ 10 by omega) (Nat.pow_le_pow_right (by decide) (by decide))

/-- a text of small letters, not longer than n -/
structure Tx (n : Nat) (z : Str) : Prop where
  len : z.length ≤ n
  low : ∀ c ∈ z.cps.toList, 97 ≤ c ∧ c ≤ 122
def spPiece : Sp := fun vs H Q _ => ∃ (p c : Addr) (m : Nat), vs = [.ref p, .int m] ∧ Pen H p c ∧ 0 < m ∧ m < 900 ∧
  ∀ (z : Str) H', 0 < z.length → Tx m z → Kp p c H H' → Q (.str z) H'
def abc : List Str := ["ab", "ab", "a", "abc", "abcdefghijklmnopqrstuvwxyz"]
theorem abc_low : ∀ z ∈ abc, 0 < z.length ∧ z.length < 1000 ∧ ∀ c ∈ z.cps.toList, 97 ≤ c ∧ c ≤ 122 := by decide +kernel
/-- texts joined: their signs one behind the other -/
theorem join_nil : ∀ l : List (List Nat), TL.joinL [] l = l.flatten
  | [] => rfl
  | [x] => by
    show x = [x].flatten
    rw [List.flatten_cons, List.flatten_nil, List.append_nil]
  | x :: z :: r => by
    show x ++ ([] ++ TL.joinL [] (z :: r)) = (x :: z :: r).flatten
    rw [List.nil_append, join_nil (z :: r), List.flatten_cons (l := x)]
theorem join_cps (ys : List Str) : (Txt.join "" ys).cps.toList = (ys.map fun y => y.cps.toList).flatten := by
  have e : TL.tl (Txt.join "" ys) = TL.joinL (TL.tl "") (ys.map TL.tl) := (congrArg TL.tl (TL.join_eq "" ys)).trans (TL.tl_join "" ys)
  exact e.trans (join_nil _)
theorem join_len (ys : List Str) : (Txt.join "" ys).length = (ys.map (·.length)).sum := by
  have e : (Txt.join "" ys).length = (Txt.join "" ys).cps.toList.length := (Array.length_toList).symm
  rw [e, join_cps, List.length_flatten, List.map_map]
  exact congrArg List.sum (List.map_congr_left fun y _ => Array.length_toList)
theorem lens_one : ∀ ys : List Str, (∀ y ∈ ys, y.length = 1) → (ys.map (·.length)).sum = ys.length
  | [], _ => rfl
  | y :: r, h => by
    rw [List.map_cons, List.sum_cons, h y List.mem_cons_self, lens_one r fun z hz => h z (List.mem_cons_of_mem _ hz), List.length_cons]
    omega
section
variable {P : Program} {w : World} {K : PySem.W.Frag} {mg : Str → Option Value} {base : Heap} {f : Addr} {fd : FuncData}
theorem cal_one (F : C8.Def K mg "_law_one_of" st_law_one_of f fd) (b : Binds K fd ["pen", "rows"] []) (B : BN mg) (Cd : Cal P w K mg base 2 "_law_draw" spDraw []) : Cal P w K mg base 3 "_law_one_of" (spOne K) [] := by
  refine cal0 F b .nil sc_one (fun vs H Q E h => ?_) (fun cdv A outer s H vs Q E hr h => ?_)
  · obtain ⟨p, c, _, h⟩ := h
    rcases h with ⟨a, xs, rfl, _⟩ | ⟨z, rfl, _⟩ <;> rfl
  · obtain ⟨p, c, hP, h⟩ := h
    refine ⟨_, pss_one (ps_ret (pe_ix (IxR.or ix_list ix_str) (pv 1) (pe_c Cd hr (by decide) (by rfl) (pa_cons (pv 0) (pa_cons (pe_callB (CallR.or call_len_seq call_len_str) (by rfl) B.len PySem.boot_len (pa_cons (pv 1) pa_nil)) pa_nil))) (fun _ _ => rfl))), ?_⟩
    rcases h with ⟨a, xs, rfl, na, hS, h0, h1, k⟩ | ⟨z, rfl, h0, h1, k⟩
    · refine ⟨_, rfl, _, rfl, _, rfl, .inl ⟨a, xs, rfl, .inl hS, p, c, _, rfl, hP, by omega, log_small (by omega) (by omega), fun d H1 d0 d1 k1 => ?_⟩⟩
      obtain ⟨u, rfl⟩ : ∃ u : Nat, d = (u : Int) := ⟨_, (Int.toNat_of_nonneg d0).symm⟩
      have hlt : u < xs.length := by omega
      exact .inl ⟨a, xs, _, xs[u], rfl, rfl, k1.seqL na hS, atI_nat (List.getElem?_eq_getElem hlt), k _ _ (List.getElem_mem hlt) k1⟩
    · refine ⟨_, rfl, _, rfl, _, rfl, .inr ⟨z, rfl, Nat.le_of_lt (Nat.lt_of_lt_of_le h1 (by decide)), p, c, _, rfl, hP, by omega, log_small (by omega) (by omega), fun d H1 d0 d1 k1 => ?_⟩⟩
      obtain ⟨u, rfl⟩ : ∃ u : Nat, d = (u : Int) := ⟨_, (Int.toNat_of_nonneg d0).symm⟩
      have hlt : u < z.cps.toList.length := by
        rw [Array.length_toList]
        have e : z.length = z.cps.size := rfl
        omega
      exact .inr ⟨z, _, z.cps.toList[u], rfl, rfl, Nat.le_of_lt (Nat.lt_of_lt_of_le h1 (by decide)), atI_nat (List.getElem?_eq_getElem hlt), k _ _ (List.getElem_mem hlt) k1⟩
end

/-! ### words drawn -/
/-- a word of kinds below b, not longer than n -/
def Wd (b : Int) (n : Nat) (ks : List Int) : Prop := ks.length ≤ n ∧ ∀ k ∈ ks, 0 ≤ k ∧ k < b
def spWord : Sp := fun vs H Q _ => ∃ (p c : Addr) (b : Int) (n : Nat), vs = [.ref p, .int b, .int n] ∧ Pen H p c ∧ 0 < b ∧ b < 1000 ∧ n < 900 ∧
  ∀ (ks : List Int) (t : Addr) H', Wd b n ks → Kp p c H H' → H t = none → H' t = some (.tup (ks.map V.int)) → Q (.ref t) H'
theorem sc_word : FnScope ["pen", "count", "most", "lap"] ["pen", "count", "most"] (fnScope st_law_word) := fnScope_by (by decide +kernel)

section
variable {P : Program} {w : World} {K : PySem.W.Frag} {mg : Str → Option Value} {base : Heap} {f : Addr} {fd : FuncData}
theorem cal_word (F : C8.Def K mg "_law_word" st_law_word f fd) (b : Binds K fd ["pen", "count", "most"] []) (B : BN mg) (BT : mg "tuple" = none) (Cd : Cal P w K mg base 2 "_law_draw" spDraw []) : Cal P w K mg base 3 "_law_word" spWord [] := by
  refine cal0 F b .nil sc_word (fun vs H Q E h => ?_) (fun cdv A outer s H vs Q E hr h => ?_)
  · obtain ⟨p, c, m, n, rfl, _⟩ := h
    rfl
  · obtain ⟨p, c, m, n, rfl, hP, m0, m9, n9, k⟩ := h
    refine ⟨_, pss_one (ps_ret (pe_callTy call_tuple_of (by rfl) BT (by decide +kernel) (pa_cons (pe_lc (own := [("lap", 3)]) (g := gName 3) (tt := tYes) (by rfl) sc_word.nd (pi_range1 rfl B.range (pa_cons (pe_c Cd hr (by decide) (by rfl) (pa_cons (pv 0) (pa_cons (pe_op op_add (pv 2) pe_int) pa_nil))) pa_nil))
        (blkOk_by (own := [("lap", 3)]) (N := ["pen", "count", "most", "lap"]) (sc := fnScope st_law_word) (by decide +kernel)) (fun _ _ _ _ _ => pg_name (i := 3) sc_word.nd rfl (Or.inl rfl)) (fun _ _ _ _ _ => pts_nil)
        (fun _ _ _ _ _ => pe_c Cd hr (by decide) (by rfl) (pa_cons (pv 0) (pa_cons (pv 1) pa_nil)))) pa_nil))), ?_⟩
    refine ⟨_, rfl, _, rfl, _, _, rfl, rfl, p, c, _, rfl, hP, by omega, log_small (by omega) (by omega), fun d H1 d0 d1 k1 => ?_⟩
    refine ⟨d, rfl, by omega, by omega, fun D hD => ?_⟩
    refine lc_range (lo := 0) (n := d.toNat) (fun i H' => Kp p c H H' ∧ ∃ ks : List Int, H' D = some (.lst (ks.map V.int)) ∧ H D = none ∧ ks.length = i ∧ ∀ z ∈ ks, 0 ≤ z ∧ z < m)
      ⟨k1.new hD, [], upd_same, k1.free hD, rfl, fun y hy => by cases hy⟩ ?_ ?_
    · rintro i H3 hi ⟨k3, ks, hL, hD0, hl, hy⟩
      refine ⟨rfl, ?_⟩
      refine ⟨_, rfl, _, rfl, p, c, _, rfl, k3.pen, m0, log_small m0 m9, fun z H4 z0 z1 k4 => ?_⟩
      refine ⟨_, k4.but _ _ (hP.ne hD0) hL, ?_, ?_⟩
      · rw [List.length_map]
        exact Nat.lt_of_lt_of_le (show ks.length < 1000 by omega) (by decide)
      · refine ⟨(k3.trans k4).put hP hD0, ks ++ [z], ?_, hD0, ?_, ?_⟩
        · rw [upd_same, List.map_append]
          rfl
        · rw [List.length_append, hl]
          rfl
        · intro y hm
          rcases List.mem_append.mp hm with hm | hm
          · exact hy y hm
          · obtain rfl := List.mem_singleton.mp hm
            exact ⟨z0, z1⟩
    · rintro H3 ⟨k3, ks, hL, hD0, hl, hy⟩
      refine ⟨D, _, rfl, .inl ⟨SqL.of hL, fun t ht => ?_⟩⟩
      exact k ks t _ ⟨by omega, hy⟩ (k3.new ht) (k3.free ht) upd_same
end

/-! ### recipes: parts, their buffers, their letters -/
inductive Pt where
  | s (z : Str)
  | b (i : Nat)
abbrev Rc := List Pt
def Pt.v : Pt → V
  | .s z => .str z
  | .b i => .int i
def Pt.d : Pt → PyData
  | .s z => .str z
  | .b i => .int i
def Pt.buf : Pt → List Nat
  | .s _ => []
  | .b i => [i]
def Pt.let : Pt → Nat
  | .s z => z.length
  | .b _ => 0
def Pt.low : Pt → Prop
  | .s z => ∀ c ∈ z.cps.toList, 97 ≤ c ∧ c ≤ 122
  | .b _ => True
def bufs (r : Rc) : List Nat := r.flatMap Pt.buf
def lets (r : Rc) : Nat := (r.map Pt.let).sum
def lowR (r : Rc) : Prop := ∀ q ∈ r, q.low
theorem bufs_app (a b : Rc) : bufs (a ++ b) = bufs a ++ bufs b := List.flatMap_append
theorem lets_app (a b : Rc) : lets (a ++ b) = lets a + lets b := by
  unfold lets
  rw [List.map_append, List.sum_append]
theorem lets_one (q : Pt) : lets [q] = q.let := by
  unfold lets
  rw [List.map_cons, List.map_nil, List.sum_cons, List.sum_nil, Nat.add_zero]
theorem bufs_one (q : Pt) : bufs [q] = q.buf := by
  unfold bufs
  rw [List.flatMap_cons, List.flatMap_nil, List.append_nil]
theorem lowR_app {a b : Rc} (h : lowR a) (h2 : lowR b) : lowR (a ++ b) := fun q hq => (List.mem_append.mp hq).elim (h q) (h2 q)
theorem lowR_one {q : Pt} (h : q.low) : lowR [q] := fun x hx => by
  obtain rfl := List.mem_singleton.mp hx
  exact h
theorem low_strOk {z : Str} (h : ∀ c ∈ z.cps.toList, 97 ≤ c ∧ c ≤ 122) : PyData.strOk z = true := by
  unfold PyData.strOk
  rw [← Array.all_toList, List.all_eq_true]
  intro c hc
  have q := (h c hc).2
  exact decide_eq_true (by omega)
theorem low_cat {x y : Str} (h : ∀ c ∈ x.cps.toList, 97 ≤ c ∧ c ≤ 122) (h2 : ∀ c ∈ y.cps.toList, 97 ≤ c ∧ c ≤ 122) : ∀ c ∈ (x ++ y).cps.toList, 97 ≤ c ∧ c ≤ 122 := by
  intro c hc
  rw [Str.cps_append, Array.toList_append] at hc
  exact (List.mem_append.mp hc).elim (h c) (h2 c)
theorem len_cat (x y : Str) : (x ++ y).length = x.length + y.length := by
  show (x ++ y).cps.size = x.cps.size + y.cps.size
  rw [Str.cps_append, Array.size_append]

/-- the parts put together: pieces side by side become one -/
def nstep (f : Rc) : Pt → Rc
  | .b i => f ++ [.b i]
  | .s z => match f.getLast? with
    | some (.s y) => f.dropLast ++ [.s (y ++ z)]
    | _ => if z = "" then f else f ++ [.s z]
def normal (ps : Rc) : Rc := ps.foldl nstep []
theorem nstep_glue (g : Rc) (y z : Str) : nstep (g ++ [.s y]) (.s z) = g ++ [.s (y ++ z)] := by
  unfold nstep
  rw [List.getLast?_concat, List.dropLast_concat]
theorem nstep_behind (g : Rc) (i : Nat) (z : Str) : nstep (g ++ [.b i]) (.s z) = if z = "" then g ++ [.b i] else g ++ [.b i] ++ [.s z] := by
  unfold nstep
  rw [List.getLast?_concat]
theorem nstep_first (z : Str) : nstep [] (.s z) = if z = "" then [] else [.s z] := rfl
theorem len_empty {z : Str} (h : z = "") : z.length = 0 := by
  subst h
  decide
structure NOk (f : Rc) (q : Pt) (g : Rc) : Prop where
  buf : bufs g = bufs f ++ q.buf
  lt : lets g = lets f + q.let
  len : g.length ≤ f.length + 1
  low : lowR f → q.low → lowR g
theorem nok_push (f : Rc) (q : Pt) : NOk f q (f ++ [q]) :=
  ⟨by rw [bufs_app, bufs_one], by rw [lets_app, lets_one], by rw [List.length_append, List.length_singleton]; exact Nat.le_refl _, fun h1 h2 => lowR_app h1 (lowR_one h2)⟩
theorem nok_same (f : Rc) {z : Str} (h : z = "") : NOk f (.s z) f :=
  ⟨(List.append_nil _).symm, by show lets f = lets f + z.length; rw [len_empty h, Nat.add_zero], Nat.le_succ _, fun h1 _ => h1⟩
theorem nok_glue (g : Rc) (y z : Str) : NOk (g ++ [.s y]) (.s z) (g ++ [.s (y ++ z)]) := by
  refine ⟨?_, ?_, ?_, fun h1 h2 => ?_⟩
  · rw [bufs_app, bufs_app, bufs_one, bufs_one]
    show bufs g ++ [] = bufs g ++ [] ++ []
    rw [List.append_nil, List.append_nil]
  · rw [lets_app, lets_app, lets_one, lets_one]
    show lets g + (y ++ z).length = lets g + y.length + z.length
    rw [len_cat, Nat.add_assoc]
  · rw [List.length_append, List.length_append]
    exact Nat.le_succ _
  · refine lowR_app (fun q hq => h1 q (List.mem_append_left _ hq)) (lowR_one ?_)
    exact low_cat (h1 (.s y) (List.mem_append_right _ (List.mem_singleton.mpr rfl))) h2
theorem nstep_ok (f : Rc) (q : Pt) : NOk f q (nstep f q) := by
  cases q with
  | b i => exact nok_push f _
  | s z =>
    rcases List.eq_nil_or_concat f with rfl | ⟨g, l, rfl⟩
    · rw [nstep_first]
      by_cases h : z = ""
      · rw [if_pos h]
        exact nok_same [] h
      · rw [if_neg h]
        exact nok_push [] _
    · rw [List.concat_eq_append]
      cases l with
      | s y =>
        rw [nstep_glue]
        exact nok_glue g y z
      | b i =>
        rw [nstep_behind]
        by_cases h : z = ""
        · rw [if_pos h]
          exact nok_same _ h
        · rw [if_neg h]
          exact nok_push _ _
theorem normal_ok : ∀ (ps f : Rc), bufs (ps.foldl nstep f) = bufs f ++ bufs ps ∧ lets (ps.foldl nstep f) = lets f + lets ps ∧ (ps.foldl nstep f).length ≤ f.length + ps.length ∧ (lowR f → lowR ps → lowR (ps.foldl nstep f))
  | [], f => ⟨(List.append_nil _).symm, rfl, Nat.le_refl _, fun h _ => h⟩
  | q :: r, f => by
    have a := nstep_ok f q
    obtain ⟨h1, h2, h3, h4⟩ := normal_ok r (nstep f q)
    rw [List.foldl_cons]
    refine ⟨?_, ?_, ?_, fun l1 l2 => ?_⟩
    · rw [h1, a.buf, List.append_assoc]
      exact congrArg _ (List.flatMap_cons).symm
    · rw [h2, a.lt, Nat.add_assoc]
      rfl
    · rw [List.length_cons]
      have := a.len
      omega
    · exact h4 (a.low l1 (l2 q List.mem_cons_self)) fun x hx => l2 x (List.mem_cons_of_mem _ hx)
theorem foldl_more {α β : Type} (g : β → α → β) (b : β) {l : List α} {i : Nat} {x : α} (h : l[i]? = some x) : (l.take (i + 1)).foldl g b = g ((l.take i).foldl g b) x := by
  have e : l.take (i + 1) = l.take i ++ [x] := by
    rw [List.take_add_one, h]
    rfl
  rw [e, List.foldl_append]
  rfl
theorem dp_parts {K : PySem.W.Frag} {H : Hp} : ∀ r : Rc, DpAll K H (r.map Pt.v) (r.map Pt.d)
  | [] => .nil
  | .s z :: r => .cons (.str z) (dp_parts r)
  | .b i :: r => .cons (.int i) (dp_parts r)
theorem parts_flat : ∀ r : Rc, lowR r → PyData.canLayAll0 (r.map Pt.d) = true ∧ PyData.depthAll (r.map Pt.d) = 0
  | [], _ => ⟨by simp only [List.map_nil, PyData.canLayAll0], by simp only [List.map_nil, PyData.depthAll]⟩
  | .s z :: r, h => by
    obtain ⟨h1, h2⟩ := parts_flat r fun q hq => h q (List.mem_cons_of_mem _ hq)
    have h3 : PyData.strOk z = true := low_strOk (h (.s z) List.mem_cons_self)
    exact ⟨by simp only [List.map_cons, Pt.d, PyData.canLayAll0, PyData.canLay0, h1, h3, Bool.and_self], by simp only [List.map_cons, Pt.d, PyData.depthAll, PyData.depth, h2, Nat.max_self]⟩
  | .b i :: r, h => by
    obtain ⟨h1, h2⟩ := parts_flat r fun q hq => h q (List.mem_cons_of_mem _ hq)
    exact ⟨by simp only [List.map_cons, Pt.d, PyData.canLayAll0, PyData.canLay0, h1, Bool.and_self], by simp only [List.map_cons, Pt.d, PyData.depthAll, PyData.depth, h2, Nat.max_self]⟩
theorem shaped_parts (r : Rc) (h : lowR r) : SeqAt.shaped (.list (r.map Pt.d)) = true := by
  obtain ⟨h1, h2⟩ := parts_flat r h
  unfold SeqAt.shaped
  simp only [PyData.canLay0, PyData.depth, h1, h2, Bool.true_and]
  decide
theorem list_ne_nil (ds : List PyData) : (!PyData.eqv (.list ds) (.list [])) = !ds.isEmpty := by
  cases ds with
  | nil => simp only [PyData.eqv, PyData.eqvAll, List.isEmpty_nil]
  | cons a r => simp only [PyData.eqv, PyData.eqvAll, List.isEmpty_cons]

/-- more built-in names -/
structure BN2 (mg : Str → Option Value) : Prop extends BN mg where
  tuple : mg "tuple" = none
  isi : mg "isinstance" = none
  str : mg "str" = none

def spNormal (K : PySem.W.Frag) : Sp := fun vs H Q _ => ∃ (a : Addr) (ps : Rc), vs = [.ref a] ∧ SqL K H a (ps.map Pt.v) ∧ ps.length ≤ 1000 ∧ lets ps ≤ 100000 ∧ lowR ps ∧
  ∀ t H', Same H H' → H t = none → H' t = some (.tup ((normal ps).map Pt.v)) → Q (.ref t) H'
/-- isinstance(part, str) -/
theorem isi_pt {K : PySem.W.Frag} {H : Hp} (q : Pt) : ∃ (t : Value) (b : Bool), TyX K H q.v t ∧ PySem.W.kitOne K t (.type "str") = some b ∧ (b = true → ∃ z, q = .s z) ∧ (b = false → ∃ i, q = .b i) := by
  cases q with
  | s z => exact ⟨_, true, .base (.str z), kit_ty (by decide +kernel), fun _ => ⟨z, rfl⟩, fun h => (by cases h)⟩
  | b i => exact ⟨_, false, .base (.int i), kit_ty (by decide +kernel), fun h => (by cases h), fun _ => ⟨i, rfl⟩⟩

/-! ### tuples over tuples, as data -/
mutual
inductive Tp (H : Hp) : V → PyData → Prop
  | non : Tp H .non .none
  | bl (b : Bool) : Tp H (.bl b) (.bool b)
  | int (i : Int) : Tp H (.int i) (.int i)
  | str (x : Str) : Tp H (.str x) (.str x)
  | tup {a : Addr} {xs : List V} {ds : List PyData} : H a = some (.tup xs) → TpAll H xs ds → Tp H (.ref a) (.tuple ds)
inductive TpAll (H : Hp) : List V → List PyData → Prop
  | nil : TpAll H [] []
  | cons {v : V} {vs : List V} {d : PyData} {ds : List PyData} : Tp H v d → TpAll H vs ds → TpAll H (v :: vs) (d :: ds)
end
/-- all tuples stand -/
def TK (H H' : Hp) : Prop := ∀ b xs, H b = some (.tup xs) → H' b = some (.tup xs)
theorem TK.trans {H H1 H2 : Hp} (a : TK H H1) (b : TK H1 H2) : TK H H2 := fun x o e => b x o (a x o e)
mutual
theorem Tp.mono {H H' : Hp} (k : TK H H') : ∀ {v : V} {d : PyData}, Tp H v d → Tp H' v d
  | _, _, .non => .non
  | _, _, .bl b => .bl b
  | _, _, .int i => .int i
  | _, _, .str x => .str x
  | _, _, .tup h hs => .tup (k _ _ h) (TpAll.mono k hs)
theorem TpAll.mono {H H' : Hp} (k : TK H H') : ∀ {v : List V} {d : List PyData}, TpAll H v d → TpAll H' v d
  | _, _, .nil => .nil
  | _, _, .cons h hs => .cons (Tp.mono k h) (TpAll.mono k hs)
end
mutual
theorem Tp.dp {K : PySem.W.Frag} {H : Hp} : ∀ {v : V} {d : PyData}, Tp H v d → Dp K H v d
  | _, _, .non => .non
  | _, _, .bl b => .bl b
  | _, _, .int i => .int i
  | _, _, .str x => .str x
  | _, _, .tup h hs => .tup (SqT.of h) (TpAll.dp hs)
theorem TpAll.dp {K : PySem.W.Frag} {H : Hp} : ∀ {v : List V} {d : List PyData}, TpAll H v d → DpAll K H v d
  | _, _, .nil => .nil
  | _, _, .cons h hs => .cons (Tp.dp h) (TpAll.dp hs)
end
theorem tp_parts {H : Hp} : ∀ r : Rc, TpAll H (r.map Pt.v) (r.map Pt.d)
  | [] => .nil
  | .s z :: r => .cons (.str z) (tp_parts r)
  | .b i :: r => .cons (.int i) (tp_parts r)
theorem TpAll.map {H : Hp} {α : Type} {g : α → V} {e : α → PyData} : ∀ {l : List α}, (∀ x ∈ l, Tp H (g x) (e x)) → TpAll H (l.map g) (l.map e)
  | [], _ => .nil
  | x :: r, h => .cons (h x List.mem_cons_self) (TpAll.map fun y hy => h y (List.mem_cons_of_mem _ hy))
theorem TpAll.app {H : Hp} {a b : List V} {d e : List PyData} (h : TpAll H a d) (h2 : TpAll H b e) : TpAll H (a ++ b) (d ++ e) := by
  induction a generalizing d with
  | nil =>
    cases h
    exact h2
  | cons v r ih =>
    cases h with
    | cons h1 hr => exact .cons h1 (ih hr)
theorem TpAll.get {H : Hp} : ∀ {vs : List V} {ds : List PyData} {i : Nat} {d : PyData}, TpAll H vs ds → ds[i]? = some d → ∃ v, vs[i]? = some v ∧ Tp H v d
  | _, _, _, _, .nil, h => by simp at h
  | _, _, 0, _, .cons h _, e => by
    simp at e
    subst e
    exact ⟨_, rfl, h⟩
  | _, _, i + 1, _, .cons _ hs, e => by
    have e' : _ := e
    rw [List.getElem?_cons_succ] at e'
    obtain ⟨v, h1, h2⟩ := TpAll.get hs e'
    exact ⟨v, by rw [List.getElem?_cons_succ]; exact h1, h2⟩
theorem TpAll.len {H : Hp} : ∀ {vs : List V} {ds : List PyData}, TpAll H vs ds → vs.length = ds.length
  | _, _, .nil => rfl
  | _, _, .cons _ hs => by rw [List.length_cons, List.length_cons, TpAll.len hs]
theorem Same.tk {H H' : Hp} (s : Same H H') : TK H H' := fun b xs e => s b _ e
theorem Kp.tk {p c : Addr} {H H' : Hp} (k : Kp p c H H') (hP : Pen H p c) : TK H H' := fun b xs e => by
  obtain ⟨ns, i, j, h1, _⟩ := hP
  exact k.but b _ (ne_of e h1 (by intro z; cases z)) e
theorem tk_new {H : Hp} {q : Addr} {o : HO} (hq : H q = none) : TK H (upd H q o) := fun b xs e => by
  rw [upd_ne (ne_of_none e hq)]
  exact e
theorem tk_lst {H : Hp} {q : Addr} {ys : List V} {o : HO} (hq : H q = some (.lst ys)) : TK H (upd H q o) := fun b xs e => by
  rw [upd_ne (ne_of e hq (by intro z; cases z))]
  exact e
theorem same_new {H : Hp} {q : Addr} {o : HO} (hq : H q = none) : Same H (upd H q o) := fun b u e => by
  rw [upd_ne (ne_of_none e hq)]
  exact e
theorem Pen.same {H H' : Hp} {p c : Addr} (h : Pen H p c) (s : Same H H') : Pen H' p c := by
  obtain ⟨ns, i, j, h1, h2⟩ := h
  exact ⟨ns, i, j, s _ _ h1, s _ _ h2⟩
theorem Kp.same {H H1 H2 : Hp} {p c : Addr} (k : Kp p c H H1) (s : Same H1 H2) : Kp p c H H2 := ⟨fun b o n e => s b o (k.but b o n e), k.pen.same s⟩

/-! ### a heap without one list -/
def hide (H : Hp) (l : Addr) : Hp := fun b => if b = l then none else H b
theorem hide_ne {H : Hp} {l b : Addr} (h : b ≠ l) : hide H l b = H b := if_neg h
theorem hide_self {H : Hp} {l : Addr} : hide H l l = none := if_pos rfl
theorem Pen.hide {H : Hp} {p c l : Addr} (h : Pen H p c) (n1 : l ≠ p) (n2 : l ≠ c) : Pen (hide H l) p c := by
  obtain ⟨ns, i, j, h1, h2⟩ := h
  exact ⟨ns, i, j, by rw [hide_ne n1.symm]; exact h1, by rw [hide_ne n2.symm]; exact h2⟩
theorem Kp.hide0 {H : Hp} {p c l : Addr} (h : Pen H p c) : Kp p c (hide H l) H := by
  refine ⟨fun b o n e => ?_, h⟩
  by_cases hb : b = l
  · rw [hb, hide_self] at e
    cases e
  · rw [hide_ne hb] at e
    exact e
theorem Kp.thru {H H1 H2 : Hp} {p c l : Addr} (k1 : Kp p c H H1) (k2 : Kp p c (hide H1 l) H2) (hl : H l = none) : Kp p c H H2 :=
  ⟨fun b o n e => k2.but b o n (by rw [hide_ne (ne_of_none e hl)]; exact k1.but b o n e), k2.pen⟩
theorem Kp.unhide {H H' : Hp} {p c l b : Addr} {o : HO} (k : Kp p c (hide H l) H') (n : b ≠ p) (nl : b ≠ l) (h : H b = some o) : H' b = some o := k.but b o n (by rw [hide_ne nl]; exact h)
theorem Kp.freeH {H H' : Hp} {p c l t : Addr} {o : HO} (k : Kp p c (hide H l) H') (hl : H' l = some o) (ht : H' t = none) : H t = none := by
  have h := k.free ht
  rw [hide_ne (ne_of_none hl ht).symm] at h
  exact h

/-! ### lists of small numbers -/
def iN (ls : List Nat) : List Int := ls.map fun (i : Nat) => (i : Int)
theorem rg_eq (n : Nat) : rgV 0 (n : Int) = (iN (List.range n)).map V.int := by
  unfold rgV iN
  rw [List.map_map]
  have e : ((n : Int) - 0).toNat = n := by omega
  rw [e]
  refine List.map_congr_left fun i _ => ?_
  show V.int (0 + (i : Int)) = V.int (i : Int)
  rw [Int.zero_add]
theorem flat_ints (ns : List Int) : (ns.map V.int).all flatV = true := by
  rw [List.all_eq_true]
  intro x hx
  obtain ⟨z, _, rfl⟩ := List.mem_map.mp hx
  rfl
theorem first_hit {xs : List V} {t : V → Bool} (h : xs.any t = true) : ∃ (j : Nat) (z : V), xs[j]? = some z ∧ t z = true ∧ ∀ (m : Nat) (z' : V), m < j → xs[m]? = some z' → t z' = false := by
  induction xs with
  | nil => cases h
  | cons x r ih =>
    cases hx : t x with
    | true => exact ⟨0, x, rfl, hx, fun m _ hm => absurd hm (Nat.not_lt_zero m)⟩
    | false =>
      rw [List.any_cons, hx, Bool.false_or] at h
      obtain ⟨j, z, h1, h2, h3⟩ := ih h
      refine ⟨j + 1, z, by rw [List.getElem?_cons_succ]; exact h1, h2, fun m z' hm e => ?_⟩
      cases m with
      | zero =>
        obtain rfl : x = z' := Option.some.inj e
        exact hx
      | succ m =>
        rw [List.getElem?_cons_succ] at e
        exact h3 m z' (Nat.lt_of_succ_lt_succ hm) e
theorem erase_map {α β : Type} (g : α → β) : ∀ (l : List α) (k : Nat), (l.map g).eraseIdx k = (l.eraseIdx k).map g
  | [], _ => rfl
  | _ :: _, 0 => rfl
  | x :: r, k + 1 => by
    rw [List.map_cons, List.eraseIdx_cons_succ, List.eraseIdx_cons_succ, List.map_cons, erase_map g r k]

theorem erase_perm {α : Type} : ∀ (l : List α) (k : Nat) (h : k < l.length), (l[k] :: l.eraseIdx k).Perm l
  | x :: r, 0, _ => List.Perm.refl _
  | x :: r, k + 1, h => by
    rw [List.eraseIdx_cons_succ, List.getElem_cons_succ]
    exact (List.Perm.swap x _ _).trans ((erase_perm r k (Nat.lt_of_succ_lt_succ h)).cons x)


/-! ### repr of data -/
theorem str_len (s : String) : (Str.ofString s).length = s.length := ofString_length s
/-- data that may be shown: no deeper than k, its weight at most n -/
structure Neat (k n : Nat) (d : PyData) : Prop where
  lay : d.canLay0 = true
  sh : d.showable = true
  shorts : d.intsShort 13 = true
  dep : d.depth ≤ k
  wt : d.weight ≤ n
structure NeatAll (k n : Nat) (ds : List PyData) : Prop where
  lay : PyData.canLayAll0 ds = true
  sh : PyData.showableAll ds = true
  shorts : PyData.intsShortAll 13 ds = true
  dep : PyData.depthAll ds ≤ k
  wt : PyData.weightAll ds ≤ n
theorem Neat.le {k n k' n' : Nat} {d : PyData} (h : Neat k n d) (hk : k ≤ k') (hn : n ≤ n') : Neat k' n' d := ⟨h.lay, h.sh, h.shorts, Nat.le_trans h.dep hk, Nat.le_trans h.wt hn⟩
theorem NeatAll.le {k n k' n' : Nat} {d : List PyData} (h : NeatAll k n d) (hk : k ≤ k') (hn : n ≤ n') : NeatAll k' n' d := ⟨h.lay, h.sh, h.shorts, Nat.le_trans h.dep hk, Nat.le_trans h.wt hn⟩
theorem neat_none : Neat 0 0 .none := ⟨by simp only [PyData.canLay0], by simp only [PyData.showable], by simp only [PyData.intsShort], by simp only [PyData.depth, Nat.le_refl], by simp only [PyData.weight, Nat.le_refl]⟩
theorem neat_bool (b : Bool) : Neat 0 0 (.bool b) := ⟨by simp only [PyData.canLay0], by simp only [PyData.showable], by simp only [PyData.intsShort], by simp only [PyData.depth, Nat.le_refl], by simp only [PyData.weight, Nat.le_refl]⟩
theorem neat_str {z : Str} (h : PyData.strOk z = true) : Neat 0 z.length (.str z) := ⟨by simp only [PyData.canLay0, h], by simp only [PyData.showable], by simp only [PyData.intsShort], by simp only [PyData.depth, Nat.le_refl], by simp only [PyData.weight]; exact Nat.le_refl _⟩
theorem neat_int {i : Int} (h : i.natAbs < 10 ^ 9) : Neat 0 40 (.int i) := by
  have h2 : i.natAbs.log2 < 30 := by
    by_cases h0 : i.natAbs = 0
    · rw [h0]
      decide
    · rw [Nat.log2_lt h0]
      omega
  refine ⟨by simp only [PyData.canLay0], ?_, ?_, by simp only [PyData.depth, Nat.le_refl], ?_⟩
  · simp only [PyData.showable, decide_eq_true_eq]
    omega
  · simp only [PyData.intsShort, PyData.shown, decide_eq_true_eq]
    have q := int_text_length_le10 (a := i) (k := 12) (by decide) (Nat.lt_trans h (by decide))
    exact decide_eq_true (Nat.le_trans (Nat.le_of_eq (str_len _)) q)
  · simp only [PyData.weight]
    split <;> omega
theorem neatAll_nil {k : Nat} : NeatAll k 0 [] := ⟨by simp only [PyData.canLayAll0], by simp only [PyData.showableAll], by simp only [PyData.intsShortAll], by simp only [PyData.depthAll, Nat.zero_le], by simp only [PyData.weightAll, Nat.le_refl]⟩
theorem NeatAll.cons {k a b : Nat} {d : PyData} {ds : List PyData} (h : Neat k a d) (hs : NeatAll k b ds) : NeatAll k (a + 1 + b) (d :: ds) :=
  ⟨by simp only [PyData.canLayAll0, h.lay, hs.lay, Bool.and_self], by simp only [PyData.showableAll, h.sh, hs.sh, Bool.and_self], by simp only [PyData.intsShortAll, h.shorts, hs.shorts, Bool.and_self],
    by simp only [PyData.depthAll]; exact Nat.max_le.mpr ⟨h.dep, hs.dep⟩, by simp only [PyData.weightAll]; exact Nat.add_le_add (Nat.add_le_add_right h.wt 1) hs.wt⟩
theorem NeatAll.tup {k n : Nat} {ds : List PyData} (h : NeatAll k n ds) : Neat (k + 1) n (.tuple ds) :=
  ⟨by simp only [PyData.canLay0, h.lay], by simp only [PyData.showable, h.sh], by simp only [PyData.intsShort, h.shorts], by simp only [PyData.depth]; exact Nat.succ_le_succ h.dep, by simp only [PyData.weight]; exact h.wt⟩
theorem NeatAll.lst {k n : Nat} {ds : List PyData} (h : NeatAll k n ds) : Neat (k + 1) n (.list ds) :=
  ⟨by simp only [PyData.canLay0, h.lay], by simp only [PyData.showable, h.sh], by simp only [PyData.intsShort, h.shorts], by simp only [PyData.depth]; exact Nat.succ_le_succ h.dep, by simp only [PyData.weight]; exact h.wt⟩
theorem neatAll_map {α : Type} {k a : Nat} {g : α → PyData} : ∀ {l : List α}, (∀ x ∈ l, Neat k a (g x)) → NeatAll k (l.length * (a + 1)) (l.map g)
  | [], _ => by
    rw [List.length_nil, Nat.zero_mul]
    exact neatAll_nil
  | x :: r, h => by
    have q := NeatAll.cons (h x List.mem_cons_self) (neatAll_map (l := r) fun y hy => h y (List.mem_cons_of_mem _ hy))
    rw [List.map_cons, List.length_cons, Nat.succ_mul]
    exact q.le (Nat.le_refl _) (by omega)
theorem Neat.fits {k n : Nat} {d : PyData} (h : Neat k n d) (hk : k ≤ 50) (hn : n ≤ 1000000) : d.shown.length ≤ sizeLine := by
  have e : (2 : Nat) ^ 20 = 1048576 := by decide
  have hl : PyData.layable0 d = true := by
    show (PyData.canLay0 d && decide (PyData.depth d ≤ 64) && decide (PyData.weight d ≤ 2 ^ 20)) = true
    have d1 := h.dep
    have d2 := h.wt
    rw [h.lay, decide_eq_true (show d.depth ≤ 64 by omega), decide_eq_true (show d.weight ≤ 2 ^ 20 by omega)]
    rfl
  exact Nat.le_trans (PyProof.Rows.shown_le13 hl h.shorts) (by decide)

/-- repr(x), x some data -/
def rRepr (K : PySem.W.Frag) : List V → Hp → VK → Prop := fun xs H Q => ∃ (x : V) (d : PyData) (k n : Nat), xs = [x] ∧ Dp K H x d ∧ Neat k n d ∧ k ≤ 50 ∧ n ≤ 1000000 ∧ Q (.str d.shown) H
theorem call_repr {X : Cx} (hg : X.A.guards = some []) (hu : X.A.units + 64 < cLine) : CallR X (.builtin "repr") (rRepr X.K) := by
  intro pins s σ H xs us Q I rel h
  obtain ⟨x, d, k, n, rfl, hd, hn, hk, hw, q⟩ := h
  obtain ⟨u, rfl, ru⟩ := vals1 rel
  obtain ⟨as, rr⟩ := Dp.reads I d x u hd ru
  have fits := hn.fits hk hw
  cases hd with
  | non =>
    cases ru
    exact PySem.P.repr_of_none ⟨.str _, H, I.tok _, ⟨_, rfl⟩, q⟩
  | bl b =>
    cases ru
    exact PySem.P.repr_of_bool ⟨.str _, H, I.tok _, ⟨_, rfl⟩, q⟩
  | int i =>
    obtain ⟨t, rfl⟩ := ru
    exact PySem.P.repr_of_int (by have := hn.sh; simpa only [PyData.showable, decide_eq_true_eq] using this) ⟨.str _, H, I.tok _, ⟨_, rfl⟩, q⟩
  | str z =>
    obtain ⟨t, rfl⟩ := ru
    exact PySem.P.repr_of_str ⟨.str _, H, I.tok _, ⟨_, rfl⟩, q⟩ fits
  | lst _ _ =>
    cases ru
    have dd := hn.dep
    exact repr_of_reads' rr hn.sh (PyData.noDict_hsm (PyData.hasDict_of_canLay _ hn.lay)) hg (by omega) (fun _ _ e => e) (fun h' u tk kk => ⟨.str _, H, I.kept kk, ⟨_, rfl⟩, q⟩) fits
  | tup _ _ =>
    cases ru
    have dd := hn.dep
    exact repr_of_reads' rr hn.sh (PyData.noDict_hsm (PyData.hasDict_of_canLay _ hn.lay)) hg (by omega) (fun _ _ e => e) (fun h' u tk kk => ⟨.str _, H, I.kept kk, ⟨_, rfl⟩, q⟩) fits

/-! ### a def that is called where no container is being shown -/
structure FnG (P : Program) (w : World) (K : PySem.W.Frag) (mg : Str → Option Value) (base : Heap) (k : Nat) (f : Addr) (fd : FuncData) (ps : List Str) (sp : Sp) : Prop where
  many : ∀ vs H Q E, sp vs H Q E → vs.length = ps.length
  goes : ∀ (A : Around) (outer : List Env) (s : Shared) (H : Hp) (args : Args) (us : List Value) (vs : List V) (Q : VK) (E : XK), A.guards = some [] → Room k A → Env0 P w K mg base A outer s H → BindsTo s fd args (ps.zip us) → Vals vs us →
    sp vs H Q E → codeAny (model P w) A (.call (.ref f) args) (CR CX0 outer P w H s Q E) s
section
open PySem.Spec PyProof.Rows
variable {P : Program} {w : World} {K : PySem.W.Frag} {mg : Str → Option Value} {base : Heap}
/-- by its body -/
theorem fnG_by {x qual : Str} {st : Stmt} {f : Addr} {fd : FuncData} {N ps : List Str} {k : Nat} {sp : Sp} (F : C8.Fun K x qual st f fd) (sc : FnScope N ps (fnScope st)) (many : ∀ vs H Q E, sp vs H Q E → vs.length = ps.length)
    (body : ∀ (cdv : Value) (A : Around) (outer : List Env) (s : Shared) (H : Hp) (vs : List V) (Q : VK) (E : XK), A.guards = some [] → Room k (A.deeper (envOfC qual (fnScope st) s.heap.objs.size f cdv)) → sp vs H Q E →
      ∃ t, PSs (cxOf CX0 P w K mg base N qual (fnScope st) f cdv A outer s H E).nox (fnBody st) t ∧ t { nx := fun _ H1 => Q .non H1, rt := Q } (start N vs) H) : FnG P w K mg base (k + 1) f fd ps sp := by
  obtain ⟨oc, od, dV, kV, doc, pm, an, cdv, ct, osl, rfl, atF, code⟩ := F.ex
  constructor
  · exact many
  · intro A outer s H args us vs Q E gu room e0 binds rel asked
    have n := many _ _ _ _ asked
    have kept : ∀ b o, base.get? b = some o → s.heap.get? b = some o := fun b o e => (e0.bs b o e).1
    have inK := e0.mod.kin.keeps kept
    have local' : ∀ y ∈ ps.zip us, (fnScope st).names.lookup y.1 = some .local ∨ ((fnScope st).names.lookup y.1 = some .cell ∧ ((cellsFrom (s.heap.objs.size + 1) (fnScope st).names []).lookup y.1).isSome = true) := by
      rintro ⟨nm, v⟩ mem
      exact (sc.par nm (List.of_mem_zip mem).1).imp id fun c => ⟨c, PySem.W.cellsFrom_some _ _ _ (.inl c)⟩
    refine codeAny_call_function room.depth (inK _ _ atF) rfl sc.co sc.gen rfl (PySem.W.codeRec_of inK code) (binds _ _ _ _ (wpAny_newFunctionEnv_cells sc.kind local' fun env eqE s1 made => ?_))
    cases eqE
    refine ⟨(e0.mod.nolimit.keeps kept).keeps made.toInCall.keep, codeAny_func ?_⟩
    obtain ⟨t, hold, ask⟩ := body cdv A outer s H vs Q E gu (room.deeper _) asked
    refine wpAny_mono (hold.nox.run [] s1 (start N vs) H _ (inv_start sc room.hd e0 n rel made) ask) (fun fl s2 got => ?_) fun _ _ z => z
    cases fl
    case ret u =>
      obtain ⟨v, _, H1, J, rv, q⟩ := got
      exact ⟨v, H1, J.os, J.bare, J.base, J.hok, rv, q⟩
    case next =>
      obtain ⟨_, H1, J, q⟩ := got
      exact ⟨V.non, H1, J.os, J.bare, J.base, J.hok, rfl, q⟩
    case brk =>
      obtain ⟨_, _, _, q⟩ := got
      exact q.elim
    case cont =>
      obtain ⟨_, _, _, q⟩ := got
      exact q.elim
end

/-! ### the end: the law's own def, called with the script -/
section
open PySem.Spec PyProof.Rows
theorem are_vals : ∀ {us : List Value} {ns : List Int}, IntsAre us ns → Vals (ns.map V.int) us
  | _, _, .nil => .nil
  | _, _, .cons _ t r => .cons ⟨t, rfl⟩ (are_vals r)
theorem lawG_end {P : Program} {w : World} {K : PySem.W.Frag} {mg mb : Str → Option Value} {k : Nat} {fa a : Addr} {fd : FuncData} {x : Str} {sp : Sp} {s₁ : Shared} {us : List Value} {ns : List Int}
    (inK : K.In s₁.heap) (gl : s₁.heap.Ns mainGlobals mg) (bl : s₁.heap.Ns builtinsNs mb) (boot : ∀ y : Str, y ≠ "__name__" → mb y = bootBuiltins y) (lim : s₁.heap.NoLimit) (gens : s₁.gens = #[])
    (at_a : s₁.heap.get? a = some { cls := .type "list", data := .seq us.toArray }) (are : IntsAre us ns) (few : ns.length ≤ sizeLine) (room : Room k callerA)
    (F : ∀ base : Heap, K.In base → base.Ns mainGlobals mg → FnG P w K mg base k fa fd [x] sp) (binds : ∀ (s : Shared) (u : Value), BindsTo s fd ⟨[u], []⟩ [(x, u)])
    (asked : ∀ H : Hp, SqL K H a (ns.map V.int) → sp [.ref a] H (fun v _ => v = .bl true) fun _ _ _ => False) :
    codeAny (model P w) callerA (.call (.ref fa) ⟨[.ref a], []⟩) (fun r s' => r = .ok (.ret (.bool true)) ∧ OldK s₁.heap s'.heap ∧ s'.os = s₁.os ∧ AllBare s'.gens) s₁ := by
  have rel := are_vals are
  have n_us := are.length
  suffices core : ∀ H : Hp, (∀ b u, H b = some u → b = a ∧ u = .frz { cls := .type "list", data := .seq us.toArray } (.lst (ns.map V.int)) ∧ K.lookup a = none) → SqL K H a (ns.map V.int) →
      codeAny (model P w) callerA (.call (.ref fa) ⟨[.ref a], []⟩) (fun r s' => r = .ok (.ret (.bool true)) ∧ OldK s₁.heap s'.heap ∧ s'.os = s₁.os ∧ AllBare s'.gens) s₁ by
    cases inF : K.lookup a with
    | some o =>
      have same := inK a o inF
      rw [at_a] at same
      cases same
      refine core (fun _ => none) (fun b u z => by cases z) (.inr ⟨_, us.toArray, _, inF, rfl, rfl, rfl, ?_, ?_⟩)
      · rw [List.size_toArray, n_us]
        exact few
      · rw [List.toList_toArray]
        exact rel
    | none =>
      refine core (fun b => if b = a then some (.frz { cls := .type "list", data := .seq us.toArray } (.lst (ns.map V.int))) else none) (fun b u z => ?_) (.inl (.inr ⟨_, if_pos rfl⟩))
      by_cases e : b = a
      · refine ⟨e, ?_, inF⟩
        have z' : (if b = a then some (HO.frz { cls := .type "list", data := .seq us.toArray } (.lst (ns.map V.int))) else none) = some u := z
        rw [if_pos e] at z'
        exact (Option.some.inj z').symm
      · have z' : (if b = a then some (HO.frz { cls := .type "list", data := .seq us.toArray } (.lst (ns.map V.int))) else none) = some u := z
        rw [if_neg e] at z'
        cases z'
  intro H only sq
  have keepK : K.In (hidT s₁.heap H) := fun b o e => hidT_get (inK b o e) (by
    cases q : H b with
    | none => rfl
    | some u =>
      obtain ⟨e1, _, e2⟩ := only b u q
      rw [e1, e2] at e
      cases e)
  have keepN : ∀ {b : Addr} {m : Str → Option Value}, s₁.heap.Ns b m → (hidT s₁.heap H).Ns b m := by
    rintro b m ⟨o, es, ep, e, d, r⟩
    refine ⟨o, es, ep, hidT_get e ?_, d, r⟩
    cases q : H b with
    | none => rfl
    | some u =>
      obtain ⟨e1, _, _⟩ := only b u q
      rw [e1, at_a] at e
      cases e
      cases d
  have ok : HOk P w H s₁.heap := by
    intro b u q
    obtain ⟨rfl, rfl, _⟩ := only b u q
    exact ⟨at_a, (by rw [List.length_map]; exact few), us, _, rel, at_a⟩
  have start : Env0 P w K mg (hidT s₁.heap H) callerA [] s₁ H := by
    refine ⟨rfl, ⟨keepK, keepN gl, ⟨mb, keepN bl, boot⟩, ?_⟩, fun b o e => of_hidT e, Nat.le_of_eq (hidT_size _ _), trivial, fun b hb => ?_, ok, .of_eq gens⟩
    · obtain ⟨mc, h1, h2⟩ := lim
      exact ⟨mc, keepN h1, h2⟩
    · cases hb
  refine codeAny_mono ((F _ keepK (keepN gl)).goes callerA [] s₁ H ⟨[.ref a], []⟩ [.ref a] [.ref a] _ _ rfl room start (binds s₁ (.ref a)) (.cons rfl .nil) (asked H sq)) fun r s' got => ?_
  match r, got with
  | .error _, got => exact False.elim got
  | .ok .next, got => exact False.elim got
  | .ok .brk, got => exact False.elim got
  | .ok .cont, got => exact False.elim got
  | .ok (.ret u), got =>
    obtain ⟨v, H2, os, bare, un, ok2, ru, q⟩ := got
    have q' : v = .bl true := q
    rw [q'] at ru
    have eu : u = Value.bool true := ru
    refine ⟨by rw [eu], OldK.of_keep fun b o e => ?_, os, bare⟩
    cases z : H b with
    | none => exact un.keep b o e z (fun y => by cases y) (fun y => by cases y)
    | some y =>
      obtain ⟨rfl, rfl, _⟩ := only b y z
      rw [at_a] at e
      cases e
      exact (ok2 _ _ (un.frzs _ _ _ z)).1
/-- the goal that k_head leaves, from the law's promise -/
theorem walkG {l : PySem.W.OpenLaw} {k : Nat} {q : Program} {loose : List Str} {XP : (Str → Option Value) → Heap → Prop} {YP : World → Heap → Prop} {d : DefRec} {K : Params → PySem.W.Frag} {sp : PySem.W.Frag → Sp} {x : Str}
    (most : l.most = some 63) (noDflt : d.params.defaults = []) (room : Room k callerA) (inK : ∀ (w : World) (h : Heap), YP w h → (K w.params).In h)
    (F : ∀ (w : World) (mg : Str → Option Value) (fa : Addr) (h : Heap), (K w.params).In h → h.Ns mainGlobals mg → mg d.name = some (.ref fa) →
      ∃ fd : FuncData, (∀ (s : Shared) (u : Value), BindsTo s fd ⟨[u], []⟩ [(x, u)]) ∧ ∀ base : Heap, (K w.params).In base → base.Ns mainGlobals mg → FnG l.prog w (K w.params) mg base k fa fd [x] (sp (K w.params)))
    (asked : ∀ (K : PySem.W.Frag) (H : Hp) (a : Addr) (ns : List Int), ns.length ≤ 63 → SqL K H a (ns.map V.int) → sp K [.ref a] H (fun v _ => v = .bl true) fun _ _ _ => False) :
    PySem.W.WalkO q loose XP YP l.row.toRowW d [] (fun g us => PySem.call g us) := by
  refine Att.attach_call most noDflt fun w s₀ s₁ mg mb fa o pm cd doc a us ns G Y _ _ _ named obj are few gens => ?_
  have KX := inK w _ Y
  obtain ⟨fd, binds, hF⟩ := F w mg fa _ KX G.T.g named
  exact lawG_end KX G.T.g G.T.b G.T.builtins G.T.nolimit gens obj are (Nat.le_trans few (by decide)) room hF binds fun H sq => asked (K w.params) H a ns few sq
end

/-! ### data that is a tuple -/
theorem Tp.tup_inv {H : Hp} {v : V} {ds : List PyData} (h : Tp H v (.tuple ds)) : ∃ a xs, v = .ref a ∧ H a = some (.tup xs) ∧ TpAll H xs ds := by
  cases h with
  | tup h hs => exact ⟨_, _, rfl, h, hs⟩
theorem Tp.int_inv {H : Hp} {v : V} {i : Int} (h : Tp H v (.int i)) : v = .int i := by
  cases h
  rfl
theorem Tp.str_inv {H : Hp} {v : V} {z : Str} (h : Tp H v (.str z)) : v = .str z := by
  cases h
  rfl
theorem Tp.non_inv {H : Hp} {v : V} (h : Tp H v .none) : v = .non := by
  cases h
  rfl
theorem tpAll_strs {H : Hp} : ∀ {ts : List Str} {xs : List V}, TpAll H xs (ts.map .str) → xs = ts.map V.str
  | [], _, .nil => rfl
  | z :: r, _, .cons h hs => by rw [h.str_inv, tpAll_strs hs, List.map_cons]
theorem tpAll_ints {H : Hp} : ∀ {ns : List Int} {xs : List V}, TpAll H xs (ns.map .int) → xs = ns.map V.int
  | [], _, .nil => rfl
  | z :: r, _, .cons h hs => by rw [h.int_inv, tpAll_ints hs, List.map_cons]
theorem tpAll_parts {H : Hp} : ∀ {r : Rc} {xs : List V}, TpAll H xs (r.map Pt.d) → xs = r.map Pt.v
  | [], _, .nil => rfl
  | .s z :: r, _, .cons h hs => by rw [h.str_inv, tpAll_parts hs, List.map_cons]; rfl
  | .b i :: r, _, .cons h hs => by rw [h.int_inv, tpAll_parts hs, List.map_cons]; rfl
theorem Same.put {H H' : Hp} {q : Addr} {o : HO} (s : Same H H') (hq : H q = none) : Same H (upd H' q o) := fun b u e => by
  rw [upd_ne (ne_of_none e hq)]
  exact s b u e
/-- one part of a row of data that is a map -/
theorem TpAll.at {H : Hp} {α : Type} {g : α → PyData} {vs : List V} {l : List α} {i : Nat} {x : α} (h : TpAll H vs (l.map g)) (e : l[i]? = some x) : ∃ v, vs[i]? = some v ∧ Tp H v (g x) :=
  h.get (by rw [List.getElem?_map, e]; rfl)
theorem take_map_more {α β : Type} {l : List α} {g : α → β} {i : Nat} {x : α} (h : l[i]? = some x) : (l.take (i + 1)).map g = (l.take i).map g ++ [g x] := by
  rw [List.take_add_one, h, List.map_append]
  rfl
theorem ix_tupK {X : Cx} (K : PySem.W.Frag) (h : X.K = K := by rfl) : IxR X (rIxT K) := by
  rw [← h]
  exact ix_tup
theorem ix_listK {X : Cx} (K : PySem.W.Frag) (h : X.K = K := by rfl) : IxR X (rIxL K) := by
  rw [← h]
  exact ix_list
theorem isiK {X : Cx} (K : PySem.W.Frag) (h : X.K = K := by rfl) : CallR X (.builtin "isinstance") (rIsi K) := by
  rw [← h]
  exact call_isi
theorem op_catAK {X : Cx} (K : PySem.W.Frag) (h : X.K = K := by rfl) : OpR X (binaryOp .Add) (rCatA K) := by
  rw [← h]
  exact op_catA
theorem iN_app (a : List Nat) (j : Nat) : (iN (a ++ [j])).map V.int = (iN a).map V.int ++ [.int j] := by
  unfold iN
  rw [List.map_append, List.map_append]
  rfl

/-! ### () * k is () itself -/
section
open PySem.Spec PyProof.Rows
theorem mul_of_empty (l : Addr) (n : Nat) (dd : Option Addr) (sl : Array (Option Value)) (x : Int) (u : Tok) (small : (decide (x < -(2 ^ 63)) || decide (x ≥ 2 ^ 63)) = false) :
    Meets (Builtin.«tuple.__mul__» ⟨[.ref l, .int x u], []⟩) (fun _ R s => s.heap.get? l = some { cls := .type "tuple", dict := dd, data := .seq #[] n, slots := sl } ∧ R (.ok (.ret (Value.ref l))) s) :=
  .of_wp fun _ _ _ _ s h => by
    obtain ⟨heap, gs, dr, tk, os⟩ := s
    obtain ⟨look, fin⟩ := h
    have f1 := AutoSeq1.idx_int
    (wp_walk using wpAny_loadPart' look)
    repeat (first
      | (refine wpAny_ite_false (decide_eq_false (by rw [small]; exact Bool.false_ne_true)) ?_; (wp_walk using wpAny_loadPart' look))
      | (refine wpAny_ite_true (decide_eq_true rfl) ?_; (wp_walk using wpAny_loadPart' look)))
    exact ⟨_, rfl, fin⟩
def rRep0 (K : PySem.W.Frag) : R2 := fun x y H Q => ∃ (l : Addr) (k : Int), x = .ref l ∧ y = .int k ∧ SqT K H l [] ∧ 2 ≤ k ∧ k ≤ 1000 ∧ Q (.ref l) H
theorem op_rep0 {X : Cx} : OpR X (binaryOp .Mult) (rRep0 X.K) := by
  intro pins s σ H x y v u Q I rx ry given
  obtain ⟨l, k, rfl, rfl, hT, h1, h2, q⟩ := given
  cases rx
  obtain ⟨t, rfl⟩ := ry
  obtain ⟨_, r, ⟨⟨cl, dd, da, sl⟩, ho, hc, n, hd⟩, _⟩ := I.tuple hT
  cases r
  simp only at hc hd
  subst hc hd
  have small : (decide (k < -(2 ^ 63)) || decide (k ≥ 2 ^ 63)) = false := by
    rw [decide_eq_false (by omega), decide_eq_false (by omega), Bool.or_false]
  exact wpAny_binaryOp_repeat_ref (T := "tuple") (U := "int") (by decide) ⟨_, ho, rfl⟩ (fun s' => typeIs_int s' k t) noFill_tuple_mul F.fills_int_mul F.slot_int_rmul repeat_tuple F.slot_int_index.lookup
    (call_meets F.slot_int_rmul (typeIs_int s k t) F.entry_int_rmul (F.args_int_rmul_2 _ _) (int_rmul_tuple k t l #[] n dd sl)
      ⟨ho, rfl, ⟨_, ho, rfl⟩, call_meets F.slot_tuple_mul ⟨_, ho, rfl⟩ F.entry_tuple_mul (F.args_tuple_mul_2 _ _) (mul_of_empty l n dd sl k t small) ⟨ho, .ref l, H, I, rfl, q⟩⟩)
end
theorem rep_words (n : Nat) (ns : List Nat) : (List.replicate n ((iN ns).map V.int)).flatten = (iN (List.replicate n ns).flatten).map V.int := by
  induction n with
  | zero => rfl
  | succ n ih =>
    rw [List.replicate_succ, List.flatten_cons, ih, List.replicate_succ, List.flatten_cons]
    unfold iN
    rw [List.map_append, List.map_append]

/-! ### slices and sums of tuples as data; texts times a number; what may be a list or a tuple -/
theorem cut_take (xs : List V) (k : Nat) (h : k ≤ xs.length) : cutV xs none (some (k : Int)) = xs.take k := by
  unfold cutV
  rw [HT.sIx_none, HT.sIx_nat, List.drop_zero, Nat.sub_zero, Nat.min_eq_left h]
theorem cut_drop (xs : List V) (k : Nat) (h : k ≤ xs.length) : cutV xs (some (k : Int)) none = xs.drop k := by
  unfold cutV
  rw [HT.sIx_none, HT.sIx_nat, Nat.min_eq_left h]
  exact List.take_of_length_le (by rw [List.length_drop]; exact Nat.le_refl _)
theorem TpAll.take {H : Hp} : ∀ {vs : List V} {ds : List PyData} (k : Nat), TpAll H vs ds → TpAll H (vs.take k) (ds.take k)
  | _, _, 0, _ => .nil
  | _, _, _ + 1, .nil => .nil
  | _, _, k + 1, .cons h hs => .cons h (TpAll.take k hs)
theorem TpAll.drop {H : Hp} : ∀ {vs : List V} {ds : List PyData} (k : Nat), TpAll H vs ds → TpAll H (vs.drop k) (ds.drop k)
  | _, _, 0, h => h
  | _, _, _ + 1, .nil => .nil
  | _, _, k + 1, .cons _ hs => TpAll.drop k hs
/-- t[:k] -/
theorem sl_take {K : PySem.W.Frag} {H : Hp} {x : V} {ds : List PyData} {k : Nat} {Q : VK} (hx : Tp H x (.tuple ds)) (hk : k ≤ ds.length) (h : ∀ (v : V) H', Same H H' → Tp H' v (.tuple (ds.take k)) → Q v H') : rSlA K x none (some (k : Int)) H Q := by
  obtain ⟨a, xs, rfl, h1, h2⟩ := hx.tup_inv
  have hk' : k ≤ xs.length := by rw [h2.len]; exact hk
  refine ⟨a, xs, rfl, SqT.of h1, fun ⟨_, e⟩ => ?_, fun _ p hp => ?_⟩
  · rw [HT.sIx_nat, Nat.min_eq_left hk'] at e
    refine h _ _ (Same.refl H) (.tup h1 ?_)
    rw [List.take_of_length_le (by rw [← h2.len, e]; exact Nat.le_refl _)]
    exact h2
  · refine h _ _ (same_new hp) (.tup upd_same ?_)
    rw [cut_take xs k hk']
    exact (h2.take k).mono (tk_new hp)
/-- t[k:] -/
theorem sl_drop {K : PySem.W.Frag} {H : Hp} {x : V} {ds : List PyData} {k : Nat} {Q : VK} (hx : Tp H x (.tuple ds)) (hk : k ≤ ds.length) (h : ∀ (v : V) H', Same H H' → Tp H' v (.tuple (ds.drop k)) → Q v H') : rSlA K x (some (k : Int)) none H Q := by
  obtain ⟨a, xs, rfl, h1, h2⟩ := hx.tup_inv
  have hk' : k ≤ xs.length := by rw [h2.len]; exact hk
  refine ⟨a, xs, rfl, SqT.of h1, fun ⟨e, _⟩ => ?_, fun _ p hp => ?_⟩
  · rw [HT.sIx_nat, Nat.min_eq_left hk'] at e
    refine h _ _ (Same.refl H) (.tup h1 ?_)
    rw [e, List.drop_zero]
    exact h2
  · refine h _ _ (same_new hp) (.tup upd_same ?_)
    rw [cut_drop xs k hk']
    exact (h2.drop k).mono (tk_new hp)
/-- t + u -/
theorem cat_tp {K : PySem.W.Frag} {H : Hp} {x y : V} {ds es : List PyData} {Q : VK} (hx : Tp H x (.tuple ds)) (hy : Tp H y (.tuple es)) (n1 : ds.length ≤ 10000) (n2 : es.length ≤ 10000) (h : ∀ (v : V) H', Same H H' → Tp H' v (.tuple (ds ++ es)) → Q v H') : rCatA K x y H Q := by
  obtain ⟨a, xs, rfl, h1, h2⟩ := hx.tup_inv
  obtain ⟨b, ys, rfl, g1, g2⟩ := hy.tup_inv
  have e1 := h2.len
  have e2 := g2.len
  refine ⟨a, b, xs, ys, rfl, rfl, SqT.of h1, SqT.of g1, Nat.le_trans (show xs.length + ys.length ≤ 20000 by omega) (by decide), fun z => ?_, fun _ z => ?_, fun _ _ p hp => ?_⟩
  · subst z
    cases h2
    exact h _ _ (Same.refl H) (.tup g1 g2)
  · subst z
    cases g2
    refine h _ _ (Same.refl H) (.tup h1 ?_)
    rw [List.append_nil]
    exact h2
  · exact h _ _ (same_new hp) (.tup upd_same ((h2.app g2).mono (tk_new hp)))
theorem sl_tupAK {X : Cx} (K : PySem.W.Frag) (h : X.K = K := by rfl) : SlR X (rSlA K) := by
  rw [← h]
  exact sl_tupA
/-- one sign, so often -/
def rowOf (c : Nat) (n : Nat) : Str := ⟨(List.replicate n c).toArray⟩
theorem rowOf_len (c n : Nat) : (rowOf c n).length = n := by
  show (List.replicate n c).toArray.size = n
  rw [List.size_toArray, List.length_replicate]
theorem rowOf_low {c n : Nat} (h : 97 ≤ c ∧ c ≤ 122) : ∀ z ∈ (rowOf c n).cps.toList, 97 ≤ z ∧ z ≤ 122 := by
  intro z hz
  have hz' : z ∈ List.replicate n c := hz
  rw [List.eq_of_mem_replicate hz']
  exact h
theorem rep_sign (c : Nat) : ∀ (n : Nat) (acc : Array Nat), (List.replicate n #[c]).foldl (· ++ ·) acc = acc ++ (List.replicate n c).toArray
  | 0, acc => by
    show acc = acc ++ #[]
    rw [Array.append_empty]
  | n + 1, acc => by
    rw [List.replicate_succ, List.foldl_cons, rep_sign c n]
    refine Array.toList_inj.mp ?_
    rw [Array.toList_append, Array.toList_append, Array.toList_append, List.replicate_succ, List.append_assoc]
    rfl
def rMulS : R2 := fun x y H Q => ∃ (c : Nat) (n : Nat), x = .str ⟨#[c]⟩ ∧ y = .int n ∧ 2 ≤ n ∧ n ≤ 100000 ∧ Q (.str (rowOf c n)) H
section
open PySem.Spec PyProof.Rows
theorem op_mulS {X : Cx} : OpR X (binaryOp .Mult) rMulS := by
  intro pins s σ H x y v u Q I rx ry given
  obtain ⟨c, n, rfl, rfl, n2, big, q⟩ := given
  obtain ⟨t, rfl⟩ := rx
  obtain ⟨t2, rfl⟩ := ry
  have one : ((⟨#[c]⟩ : Str).length) = 1 := rfl
  refine PySem.P.mul_str ?_ (fun _ _ => ?_) (fun _ _ => ?_) ?_
  · rw [decide_eq_false (by omega), decide_eq_false (by omega)]
    rfl
  · rw [one]
    have h1 : (1 : Int) ≤ (2 ^ 63 - 1) / (n : Int) := (Int.le_ediv_iff_mul_le (by omega)).mpr (by omega)
    exact Int.not_lt.mpr h1
  · rw [one, Nat.one_mul, Int.toNat_natCast]
    unfold Builtin.Str.tooLong
    exact decide_eq_false (Nat.not_lt.mpr (Nat.le_trans big (by decide)))
  · have e1 : ¬ (n : Int) < 1 := by omega
    have e2 : ((n : Int) == 1 || (⟨#[c]⟩ : Str).length == 0) = false := by
      rw [one, Bool.or_eq_false_iff]
      exact ⟨beq_eq_false_iff_ne.mpr (by omega), rfl⟩
    rw [if_neg e1, if_neg (by rw [e2]; exact Bool.false_ne_true), Int.toNat_natCast]
    have e3 : (⟨(List.replicate n (⟨#[c]⟩ : Str).cps).foldl (· ++ ·) #[]⟩ : Str) = rowOf c n := by
      refine Str.ext' ?_
      show (List.replicate n #[c]).foldl (· ++ ·) #[] = (List.replicate n c).toArray
      rw [rep_sign, Array.empty_append]
    rw [e3]
    refine ⟨?_, .str _, H, I.tok _, ⟨_, rfl⟩, q⟩
    rw [rowOf_len]
    exact Nat.le_trans big (by decide)
/-- a walk over what is a list or a tuple -/
theorem pi_any {X : Cx} {tg l : Expr} {tl : TE} (h : PE X l tl) : PI X tg l (fun σ H R => iList X.K tl σ H R ∨ iTup X.K tl σ H R) :=
  ⟨fun pins s σ H R I q => q.elim (fun z => (pi_list (tg := tg) h).run pins s σ H R I z) (fun z => (pi_tup (tg := tg) h).run pins s σ H R I z)⟩
end
/-- a walk over a tuple, whatever is done with the items -/
theorem walk_tup {K : PySem.W.Frag} {a : Addr} {xs : List V} {body : V → Hp → (Hp → Prop) → Prop} {H0 : Hp} {Qd : Hp → Prop} (Pv : Nat → Hp → Prop) (h0 : Pv 0 H0) (hl : ∀ i H, i ≤ xs.length → Pv i H → SqT K H a xs)
    (hs : ∀ i x H, xs[i]? = some x → Pv i H → body x H (Pv (i + 1))) (hd : ∀ H, Pv xs.length H → Qd H) :
    ∃ W : Nat → Nat → Hp → Prop, (∃ m, W 0 m H0) ∧ ∀ i m H, W i m H → ((Itt K a).stop i H ∧ Qd H) ∨ ((Itt K a).go i H ∧ ∃ Nx : Hp → Prop, (∀ H', Nx H' → ∃ m', m' < m ∧ W (i + 1) m' H') ∧ ∀ x H', (Itt K a).yld i H x H' → body x H' Nx) := by
  refine ⟨fun i m H => m = xs.length - i ∧ i ≤ xs.length ∧ Pv i H, ⟨xs.length, rfl, Nat.zero_le _, h0⟩, fun i m H ⟨em, hi, p⟩ => ?_⟩
  have at_a := hl i H hi p
  rcases Nat.lt_or_eq_of_le hi with lt | eq
  · refine .inr ⟨⟨xs, xs[i], at_a, List.getElem?_eq_getElem lt⟩, Pv (i + 1), fun H' p' => ⟨xs.length - (i + 1), by omega, rfl, lt, p'⟩, fun x H' y => ?_⟩
    obtain ⟨e, y⟩ := y
    rw [e]
    exact hs i x H (y xs at_a) p
  · refine .inl ⟨⟨xs, at_a, Nat.le_of_eq eq.symm⟩, hd H ?_⟩
    rw [← eq]
    exact p

theorem pg_tupK {X : Cx} (K : PySem.W.Frag) {es : List Expr} {k : Nat} {t : TGs} {n : Nat} {pos : Pos} (hc : X.calm = true) (h : PGs X es t) (e : X.K = K := by rfl)
    (hn : (assignEach es X.env).length = n := by rfl) (hst : (assignEach es X.env).findIdx? (·.1) = none := by rfl) : PG X (.Tuple es k pos) (gTup K n t) := by
  rw [← e]
  exact pg_tup hc h hn hst

/-! ### a walk over a text -/
theorem for_str {x : Str} {g : TG} {tb : TS} {D : Ends} {σ : L2.St} {H : Hp} (Pv : Nat → L2.St → Hp → Prop) (h0 : Pv 0 σ H)
    (hs : ∀ i c σ H, x.cps.toList[i]? = some c → Pv i σ H → g (.str ⟨#[c]⟩) σ H fun σ2 H2 => tb { D with nx := Pv (i + 1), ct := Pv (i + 1), bk := D.nx } σ2 H2) (hd : ∀ σ H, Pv x.length σ H → D.nx σ H) :
    ∃ W : Nat → Nat → L2.St → Hp → Prop, (∃ m, W 0 m σ H) ∧ ∀ i m σ H, W i m σ H →
      ((Its x).stop i H ∧ D.nx σ H) ∨ ((Its x).go i H ∧ ∃ N : L2.St → Hp → Prop, (∀ σ' H', N σ' H' → ∃ m', m' < m ∧ W (i + 1) m' σ' H') ∧ ∀ v H', (Its x).yld i H v H' → g v σ H' fun σ2 H2 => tb { D with nx := N, ct := N, bk := D.nx } σ2 H2) := by
  refine ⟨fun i m σ H => m = x.length - i ∧ i ≤ x.length ∧ Pv i σ H, ⟨x.length, rfl, Nat.zero_le _, h0⟩, ?_⟩
  rintro i m σ H ⟨em, le, p⟩
  rcases Nat.lt_or_eq_of_le le with lt | eq
  · refine .inr ⟨lt, Pv (i + 1), fun σ' H' p' => ⟨x.length - (i + 1), by omega, rfl, lt, p'⟩, fun v H' y => ?_⟩
    obtain ⟨e, c, hc, ev⟩ := y
    rw [e, ev]
    exact hs i c σ H (by rw [Array.getElem?_toList]; exact hc) p
  · refine .inl ⟨Nat.le_of_eq eq.symm, hd σ H ?_⟩
    rw [← eq]
    exact p

/-! ### what may be shown, its numbers being great -/
structure Shw (d : PyData) : Prop where
  lay : d.canLay0 = true
  sh : d.showable = true
  dep : d.depth ≤ 50
  fits : d.shown.length ≤ sizeLine
theorem Neat.shw {k n : Nat} {d : PyData} (h : Neat k n d) (hk : k ≤ 50) (hn : n ≤ 1000000) : Shw d := ⟨h.lay, h.sh, Nat.le_trans h.dep hk, h.fits hk hn⟩
theorem log_big {i : Int} (h : i.natAbs < 10 ^ 300) : i.natAbs.log2 < 1920 := by
  by_cases h0 : i.natAbs = 0
  · rw [h0]
    decide
  · rw [Nat.log2_lt h0]
    exact Nat.lt_trans h (by decide +kernel)
theorem short_big {i : Int} (h : i.natAbs < 10 ^ 300) : PyData.intsShort 301 (.int i) = true := by
  simp only [PyData.intsShort, PyData.shown, decide_eq_true_eq]
  exact decide_eq_true (Nat.le_trans (Nat.le_of_eq (str_len _)) (int_text_length_le10 (a := i) (k := 300) (by decide) h))
theorem shw_two {i j : Int} (hi : i.natAbs < 10 ^ 300) (hj : j.natAbs < 10 ^ 300) : Shw (.tuple [.int i, .int j]) := by
  have lay : PyData.canLay0 (.tuple [.int i, .int j]) = true := by simp only [PyData.canLay0, PyData.canLayAll0, Bool.and_self]
  have short : PyData.intsShort 301 (.tuple [.int i, .int j]) = true := by
    have a := short_big hi
    have b := short_big hj
    simp only [PyData.intsShort, PyData.intsShortAll, Bool.and_eq_true] at a b ⊢
    exact ⟨a, b, trivial⟩
  have wt : PyData.weight (.tuple [.int i, .int j]) ≤ 4000 := by
    have a := log_big hi
    have b := log_big hj
    simp only [PyData.weight, PyData.weightAll]
    split <;> split <;> omega
  refine ⟨lay, ?_, by simp only [PyData.depth, PyData.depthAll]; decide, ?_⟩
  · simp only [PyData.showable, PyData.showableAll, Bool.and_eq_true, decide_eq_true_eq]
    exact ⟨log_big hi, log_big hj, trivial⟩
  · have q := PyData.shown_le 301 (by decide) _ (PyData.leavesShort_of_canLay0 301 _ lay short)
    exact Nat.le_trans q (Nat.le_trans (show (301 + 2) * PyData.weight (.tuple [.int i, .int j]) + 301 ≤ 1300000 by omega) (by decide))
def rReprS (K : PySem.W.Frag) : List V → Hp → VK → Prop := fun xs H Q => ∃ (x : V) (d : PyData), xs = [x] ∧ Dp K H x d ∧ Shw d ∧ Q (.str d.shown) H
theorem call_reprS {X : Cx} (hg : X.A.guards = some []) (hu : X.A.units + 64 < cLine) : CallR X (.builtin "repr") (rReprS X.K) := by
  intro pins s σ H xs us Q I rel h
  obtain ⟨x, d, rfl, hd, hn, q⟩ := h
  obtain ⟨u, rfl, ru⟩ := vals1 rel
  obtain ⟨as, rr⟩ := Dp.reads I d x u hd ru
  have dd := hn.dep
  cases hd
  case non =>
    cases ru
    exact PySem.P.repr_of_none ⟨.str _, H, I.tok _, ⟨_, rfl⟩, q⟩
  case bl b =>
    cases ru
    exact PySem.P.repr_of_bool ⟨.str _, H, I.tok _, ⟨_, rfl⟩, q⟩
  case int i =>
    obtain ⟨t, rfl⟩ := ru
    have sh := hn.sh
    simp only [PyData.showable, decide_eq_true_eq] at sh
    exact PySem.P.repr_of_int sh ⟨.str _, H, I.tok _, ⟨_, rfl⟩, q⟩
  case str z =>
    obtain ⟨t, rfl⟩ := ru
    exact PySem.P.repr_of_str ⟨.str _, H, I.tok _, ⟨_, rfl⟩, q⟩ hn.fits
  case lst =>
    cases ru
    exact repr_of_reads' rr hn.sh (PyData.noDict_hsm (PyData.hasDict_of_canLay _ hn.lay)) hg (by omega) (fun _ _ e => e) (fun _ _ _ kk => ⟨.str _, H, I.kept kk, ⟨_, rfl⟩, q⟩) hn.fits
  case tup =>
    cases ru
    exact repr_of_reads' rr hn.sh (PyData.noDict_hsm (PyData.hasDict_of_canLay _ hn.lay)) hg (by omega) (fun _ _ e => e) (fun _ _ _ kk => ⟨.str _, H, I.kept kk, ⟨_, rfl⟩, q⟩) hn.fits
/-! ### defs that show something, called -/
section
open PySem.Spec PyProof.Rows
structure CalG (P : Program) (w : World) (K : PySem.W.Frag) (mg : Str → Option Value) (base : Heap) (k : Nat) (x : Str) (sp : Sp) : Prop where
  ex : ∃ (f : Addr) (fd : FuncData) (ps : List Str), FnG P w K mg base k f fd ps sp ∧ mg x = some (.ref f) ∧ PySem.W.keepIn K (.ref f) = true ∧ Binds K fd ps []
theorem run_g {X : Cx} {k j : Nat} {f : Addr} {fd : FuncData} {ps : List Str} {sp : Sp} {pins : List (Addr × Obj)} {σ : L2.St} {H : Hp} {s : Shared} {Q : VK} {us : List Value} {vs : List V} (F : FnG X.prog X.w X.K X.mg X.base k f fd ps sp) (b : Binds X.K fd ps []) (gu : X.A.guards = some []) (hr : Room j X.A) (hk : k ≤ j)
    (I : Inv X pins σ H s) (r : Vals vs us) (h : sp vs H Q E0) : wpAny (model X.prog X.w) X.A (call (.ref f) us) (EP X pins σ Q) X.xe s := by
  have n : (us ++ []).length = ps.length := by
    rw [List.append_nil, ← r.length]
    exact F.many _ _ _ _ h
  have bt := b s us I.kIn n
  rw [List.append_nil] at bt
  refine wpAny_call (codeAny_mono (F.goes X.A X.stack s H ⟨us, []⟩ us vs Q E0 gu (hr.mono hk) I.env0 bt r h) fun res s' got => ?_)
  match res, got with
  | .error e, got => exact pass0 pins σ H s e s' I got
  | .ok (.ret u), got => exact I.after got
theorem pe_g {X : Cx} {k j : Nat} {x : Str} {sp : Sp} {p pos : Pos} {e : Expr} {es : List Expr} {t : TA} (c : CalG X.prog X.w X.K X.mg X.base k x sp) (gu : X.A.guards = some []) (hr : Room j X.A) (hk : k ≤ j) (hg : Gl X x) (ha : PA X (e :: es) t)
    (hdb : (x == ("__debug__" : Str)) = false := by decide) (he : starEach (e :: es) X.env = (false, eval e X.env) :: starEach es X.env := by rfl) (hpl : (backTo pos (starEach es X.env)).any (·.1) = false := by rfl) :
    PE X (.Call (.Name x p) (e :: es) [] pos) (fun σ H Q => t σ H fun vs H1 => sp vs H1 Q E0) := by
  obtain ⟨f, fd, ps, F, hm, kp, b⟩ := c.ex
  exact ⟨fun pins s σ H Q I h => wpAny_Call_Name_kw (ld_glob I hg hm (PySem.W.callWith_K (h₀ := X.base) I.ok.mod.kin kp (thn (ha.run pos pins s σ H _ I h) fun us s1 ⟨vs, H1, I1, r, q⟩ => ⟨I1.kIn, run_g F b gu hr hk I1 r q⟩) he hpl) hdb)⟩
theorem pe_g0 {X : Cx} {k j : Nat} {x : Str} {sp : Sp} {p pos : Pos} (c : CalG X.prog X.w X.K X.mg X.base k x sp) (gu : X.A.guards = some []) (hr : Room j X.A) (hk : k ≤ j) (hg : Gl X x) (hdb : (x == ("__debug__" : Str)) = false := by decide) :
    PE X (.Call (.Name x p) [] [] pos) (fun _ H Q => sp [] H Q E0) := by
  obtain ⟨f, fd, ps, F, hm, kp, b⟩ := c.ex
  exact ⟨fun pins s σ H Q I h => wpAny_Call_Name_kw (ld_glob I hg hm (PySem.W.callWith_K0 I.kIn kp (run_g (us := []) F b gu hr hk I .nil h)) hdb)⟩
end

/-! ### a text put together out of parts, taken apart again -/
def jl (c : Nat) : List (List Nat) → List Nat
  | [] => []
  | [x] => x
  | x :: y :: r => x ++ c :: jl c (y :: r)
theorem cut_one {c : Nat} : ∀ {x y a b : List Nat}, c ∉ x → c ∉ y → x ++ c :: a = y ++ c :: b → x = y ∧ a = b
  | [], [], a, b, _, _, e => ⟨rfl, (List.cons.inj e).2⟩
  | [], y :: r, a, b, _, h, e => absurd (List.mem_cons.mpr (.inl (List.cons.inj e).1)) h
  | x :: r, [], a, b, h, _, e => absurd (List.mem_cons.mpr (.inl (List.cons.inj e).1.symm)) h
  | x :: r, y :: q, a, b, h, g, e => by
    obtain ⟨e1, e2⟩ := List.cons.inj e
    obtain ⟨e3, e4⟩ := cut_one (fun z => h (List.mem_cons_of_mem _ z)) (fun z => g (List.mem_cons_of_mem _ z)) e2
    exact ⟨by rw [e1, e3], e4⟩
theorem jl_inj {c : Nat} : ∀ (l m : List (List Nat)), l ≠ [] → m ≠ [] → (∀ x ∈ l, c ∉ x) → (∀ x ∈ m, c ∉ x) → jl c l = jl c m → l = m
  | [], _, h, _, _, _, _ => absurd rfl h
  | _, [], _, h, _, _, _ => absurd rfl h
  | [x], [y], _, _, _, _, e => by
    have e' : x = y := e
    rw [e']
  | [x], y :: z :: r, _, _, h, _, e => by
    have e' : x = y ++ c :: jl c (z :: r) := e
    exact absurd (by rw [e']; exact List.mem_append_right _ List.mem_cons_self) (h x List.mem_cons_self)
  | x :: w :: r, [y], _, _, _, h, e => by
    have e' : x ++ c :: jl c (w :: r) = y := e
    exact absurd (by rw [← e']; exact List.mem_append_right _ List.mem_cons_self) (h y List.mem_cons_self)
  | x :: w :: r, y :: z :: q, _, _, h, g, e => by
    obtain ⟨e1, e2⟩ := cut_one (h x List.mem_cons_self) (g y List.mem_cons_self) (show x ++ c :: jl c (w :: r) = y ++ c :: jl c (z :: q) from e)
    rw [e1, jl_inj (w :: r) (z :: q) (by simp) (by simp) (fun t ht => h t (List.mem_cons_of_mem _ ht)) (fun t ht => g t (List.mem_cons_of_mem _ ht)) e2]
theorem join_jl (c : Nat) : ∀ l : List Str, (Str.join ⟨#[c]⟩ l).cps.toList = jl c (l.map fun z => z.cps.toList)
  | [] => rfl
  | [x] => rfl
  | x :: y :: r => by
    have ih := join_jl c (y :: r)
    show ((x ++ (⟨#[c]⟩ : Str) ++ Str.join ⟨#[c]⟩ (y :: r)) : Str).cps.toList = x.cps.toList ++ c :: jl c (y.cps.toList :: r.map fun z => z.cps.toList)
    show ((x.cps ++ #[c]) ++ (Str.join ⟨#[c]⟩ (y :: r)).cps).toList = _
    rw [Array.toList_append, Array.toList_append, ih, List.append_assoc]
    rfl
theorem split_ne (x : Str) (c : Nat) : Txt.split x ⟨#[c]⟩ ≠ [] := fun h => by
  have e := StrLaws.join_split x ⟨#[c]⟩
  rw [h] at e
  have e0 : x = "" := e.symm
  subst e0
  unfold Txt.split at h
  rw [if_pos (by rfl)] at h
  cases h
theorem split_join (c : Nat) {l : List Str} (hl : l ≠ []) (h : ∀ z ∈ l, c ∉ z.cps.toList) : Txt.split (Str.join ⟨#[c]⟩ l) ⟨#[c]⟩ = l := by
  have e := StrLaws.join_split (Str.join ⟨#[c]⟩ l) ⟨#[c]⟩
  have f := StrLaws.split_free (Str.join ⟨#[c]⟩ l) c
  have n := split_ne (Str.join ⟨#[c]⟩ l) c
  generalize Txt.split (Str.join ⟨#[c]⟩ l) ⟨#[c]⟩ = m at e f n
  have q := jl_inj (c := c) (m.map fun z => z.cps.toList) (l.map fun z => z.cps.toList) (by simpa using n) (by simpa using hl)
    (fun x hx => by obtain ⟨z, hz, rfl⟩ := List.mem_map.mp hx; exact f z hz) (fun x hx => by obtain ⟨z, hz, rfl⟩ := List.mem_map.mp hx; exact h z hz) (by rw [← join_jl, ← join_jl, e])
  have inj : ∀ (a b : List Str), (a.map fun z => z.cps.toList) = (b.map fun z => z.cps.toList) → a = b := by
    intro a
    induction a with
    | nil =>
      intro b e
      cases b with
      | nil => rfl
      | cons y r => cases e
    | cons x r ih =>
      intro b e
      cases b with
      | nil => cases e
      | cons y q =>
        obtain ⟨e1, e2⟩ := List.cons.inj e
        rw [ih q e2, Str.ext' (Array.ext' e1)]
  exact inj m l q

/-! ### a line of parts -/
theorem tjoin_eq (sep : Str) (l : List Str) : Txt.join sep l = Str.join sep l := StrLaws.glued_eq_join sep l
def strP : Pt → Str
  | .s z => z
  | .b i => toString (i : Int)
def lineT (r : Rc) : Str := Txt.join " " (r.map strP) ++ "\n"
structure LnOk (r : Rc) : Prop where
  len : r.length ≤ 300
  each : ∀ q ∈ r, (strP q).length ≤ 30
  num : ∀ i, .b i ∈ r → i < 1000
theorem ln_len {r : Rc} (h : LnOk r) : ((r.map strP).map (·.length)).sum ≤ 30 * r.length := by
  have each := h.each
  clear h
  induction r with
  | nil => exact Nat.zero_le _
  | cons q r ih =>
    have a := ih fun x hx => each x (List.mem_cons_of_mem _ hx)
    have b := each q List.mem_cons_self
    rw [List.map_cons, List.map_cons, List.sum_cons, List.length_cons, Nat.mul_succ]
    omega
theorem tjoin_le (r : List Str) : (Txt.join " " r).length ≤ (r.map (·.length)).sum + r.length := by
  have q := StrLaws.join_length_le " " r
  have e : (" " : Str).length = 1 := by decide
  rw [e, Nat.mul_one] at q
  rw [tjoin_eq]
  exact q
theorem lineT_len {r : Rc} (h : LnOk r) : (lineT r).length ≤ 31 * r.length + 1 := by
  have a := tjoin_le (r.map strP)
  have b := ln_len h
  rw [List.length_map] at a
  show (Txt.join " " (r.map strP) ++ "\n").length ≤ _
  rw [Str.length_append]
  have e : ("\n" : Str).length = 1 := by decide
  omega
def rStrP : List V → Hp → VK → Prop := fun xs H Q => ∃ q : Pt, xs = [q.v] ∧ (∀ i, q = .b i → i < 1000) ∧ Q (.str (strP q)) H
theorem call_strP {X : Cx} : CallR X (.type "str") rStrP := fun pins s σ H xs us Q I rel h => by
  obtain ⟨q, rfl, small, k⟩ := h
  cases q with
  | s z => exact SkE.call_str_str pins s σ H _ us Q I rel ⟨z, rfl, k⟩
  | b i =>
    refine call_str_int pins s σ H _ us Q I rel ⟨(i : Int), rfl, ?_, k⟩
    have i1 := small i rfl
    have e : ((i : Int)).natAbs = i := by omega
    rw [e]
    by_cases h0 : i = 0
    · rw [h0]; decide
    · rw [Nat.log2_lt h0]
      exact Nat.lt_trans i1 (by decide +kernel)
def spLine : Sp := fun vs H Q _ => ∃ (p : Addr) (r : Rc), vs = [.ref p] ∧ H p = some (.lst (r.map Pt.v)) ∧ LnOk r ∧ ∀ H', Same H H' → Q (.str (lineT r)) H'
theorem sc_line : FnScope ["parts", "part"] ["parts"] (fnScope st_law_line) := fnScope_by (by decide +kernel)
section
variable {P : Program} {w : World} {K : PySem.W.Frag} {mg : Str → Option Value} {base : Heap} {f : Addr} {fd : FuncData}
theorem cal_line (F : C8.Def K mg "_law_line" st_law_line f fd) (b : Binds K fd ["parts"] []) (B : BN2 mg) : Cal P w K mg base 1 "_law_line" spLine [] := by
  refine cal0 F b .nil sc_line (fun vs H Q E h => ?_) (fun cdv A outer s H vs Q E hr h => ?_)
  · obtain ⟨p, r, rfl, _⟩ := h
    rfl
  · obtain ⟨p, r, rfl, hp, hr', k⟩ := h
    refine ⟨_, pss_one (ps_ret (pe_op op_add_str (pe_join pe_str (pe_lc (own := [("part", 1)]) (g := gName 1) (tt := tYes) (by rfl) sc_line.nd (pi_list (pv 0)) (blkOk_by (own := [("part", 1)]) (N := ["parts", "part"]) (sc := fnScope st_law_line) (by decide +kernel))
      (fun _ _ _ _ _ => pg_name (i := 1) sc_line.nd rfl (Or.inl rfl)) (fun _ _ _ _ _ => pts_nil) (fun _ _ _ _ _ => pe_callTy call_strP (by rfl) B.str (by decide +kernel) (pa_cons (pv 1) pa_nil)))) pe_str)), ?_⟩
    refine ⟨⟨_, rfl⟩, _, rfl, p, rfl, ⟨_, SqL.of hp⟩, fun D hD => ?_⟩
    refine lc_list (K := K) (a := p) (xs := r.map Pt.v) (fun i H' => Same H H' ∧ H' D = some (.lst (((r.take i).map strP).map V.str))) ⟨same_new hD, upd_same⟩ (fun i H' _ h => SqL.of (h.1 _ _ hp)) ?_ ?_
    · rintro i x H1 hi ⟨s1, hL⟩
      obtain ⟨q, hq, rfl⟩ : ∃ q, r[i]? = some q ∧ x = Pt.v q := by
        rw [List.getElem?_map] at hi
        cases e : r[i]? with
        | none =>
          rw [e] at hi
          cases hi
        | some y =>
          rw [e] at hi
          exact ⟨y, rfl, (Option.some.inj hi).symm⟩
      have mem := List.mem_of_getElem? hq
      refine ⟨rfl, _, rfl, q, rfl, fun j e => hr'.num j (e ▸ mem), _, hL, ?_, Same.put s1 hD, ?_⟩
      · rw [List.length_map, List.length_map, List.length_take]
        have := hr'.len
        exact Nat.lt_of_le_of_lt (show min i r.length ≤ 300 by omega) (by decide)
      · rw [upd_same, List.take_add_one, hq, List.map_append, List.map_append]
        rfl
    · rintro H1 ⟨s1, hL⟩
      rw [List.length_map, List.take_length] at hL
      have a := ln_len hr'
      have e : (" " : Str).length = 1 := by decide
      have l := hr'.len
      refine ⟨_, D, r.map strP, rfl, rfl, .inl (SqL.of hL), ?_, _, _, rfl, rfl, ?_, k _ s1⟩
      · rw [e, List.length_map]
        exact Nat.le_trans (show _ ≤ 10000 by omega) (by decide)
      · have b := tjoin_le (r.map strP)
        rw [List.length_map] at b
        have e2 : ("\n" : Str).length = 1 := by decide
        rw [e2]
        exact Nat.le_trans (show _ ≤ 10000 by omega) (by decide)
end

/-! ### words as data -/
def wordD (ns : List Nat) : PyData := .tuple ((iN ns).map .int)
theorem tp_word {H : Hp} {t : Addr} {ns : List Nat} (h : H t = some (.tup ((iN ns).map V.int))) : Tp H (.ref t) (wordD ns) := .tup h (TpAll.map fun z _ => .int z)
theorem Tp.word_inv {H : Hp} {v : V} {ns : List Nat} (h : Tp H v (wordD ns)) : ∃ a, v = .ref a ∧ H a = some (.tup ((iN ns).map V.int)) := by
  obtain ⟨a, xs, rfl, h1, h2⟩ := h.tup_inv
  rw [tpAll_ints h2] at h1
  exact ⟨a, rfl, h1⟩

/-! ### drawn words as rows of numbers -/
theorem iN_nat {b : Int} {n : Nat} {ks : List Int} (h : Wd b n ks) : ∃ ns : List Nat, ks = iN ns ∧ ns.length ≤ n ∧ ∀ i ∈ ns, (i : Int) < b := by
  refine ⟨ks.map Int.toNat, ?_, by rw [List.length_map]; exact h.1, fun i hi => ?_⟩
  · unfold iN
    rw [List.map_map]
    have e : ks.map ((fun (i : Nat) => (i : Int)) ∘ Int.toNat) = ks.map id := List.map_congr_left fun z hz => Int.toNat_of_nonneg (h.2 z hz).1
    rw [e, List.map_id]
  · obtain ⟨z, hz, rfl⟩ := List.mem_map.mp hi
    have := h.2 z hz
    omega

/-! ### sorted of a text -/
section
open PySem.Spec PyProof.Rows
theorem strs_of_items {z : Str} : ∀ (acc : List Value) (cs : List Nat), acc.length = cs.length → (∀ (i : Nat) (v : Value), acc[i]? = some v → ∃ (c : Nat) (u : Tok), cs[i]? = some c ∧ v = .str ⟨#[c]⟩ u) → StrsAre acc (cs.map fun c => (⟨#[c]⟩ : Str))
  | [], [], _, _ => .nil
  | [], _ :: _, h, _ => by cases h
  | _ :: _, [], h, _ => by cases h
  | v :: r, c :: cs, h, k => by
    obtain ⟨c', u, e1, e2⟩ := k 0 v rfl
    obtain rfl : c = c' := Option.some.inj e1
    rw [e2]
    exact .cons _ _ (strs_of_items (z := z) r cs (Nat.succ.inj h) fun i v hv => k (i + 1) v hv)
theorem sorted_tx {prog : Program} {w : World} {A : Around} {E : Value → Shared → Prop} {s : Shared} {z : Str} {t : Tok} {Q : Value → Shared → Prop} (hh : A.handled = none) (hn : z.cps.size ≤ sizeLine)
    (h : ∀ (hp h' : Heap) (tk : Nat) (out : List Value) (ys : List Str), StrsAre out ys → ys.Perm (z.cps.toList.map fun c => (⟨#[c]⟩ : Str)) → sortedS ys = true → (∀ b o, s.heap.get? b = some o → hp.get? b = some o) → (∀ b o, hp.get? b = some o → h'.get? b = some o) →
      (∃ n, h'.get? hp.objs.size = some (seqObj "list" out.toArray n)) → Q (.ref hp.objs.size) { s with heap := h', toks := tk }) : wpAny (model prog w) A (call (.builtin "sorted") [.str z t]) Q E s := by
  refine Calls.call_function_entry kind_sorted plain_sorted entry_sorted (args_sorted1 _) ?_
  unfold Builtin.«sorted»
  refine wpAny_bind (m := checkCount "sorted" 1 1 _) (wpAny_pure ?_)
  refine wpAny_bind (wpAny_collect_str (by exact hh) z t (fun s' acc kp eg ed eo items => ?_) hn)
  have lz : acc.toList.length ≤ sizeLine := by
    rw [Array.length_toList, items.1]
    exact hn
  refine wpAny_bind (wpAny_newList ?_ lz)
  have S : StrsAre acc.toList (z.cps.toList.map fun c => (⟨#[c]⟩ : Str)) := by
    refine strs_of_items (z := z) acc.toList z.cps.toList ?_ fun i v hv => ?_
    · rw [Array.length_toList, Array.length_toList]
      exact items.1
    · rw [Array.getElem?_toList] at hv
      obtain ⟨c, u, e1, e2⟩ := items.2 i v hv
      exact ⟨c, u, by rw [Array.getElem?_toList]; exact e1, e2⟩
  obtain ⟨hp, gs, dr, tk, os⟩ := s'
  cases eg
  cases ed
  cases eo
  have hoL : (hp.push (seqObj "list" acc.toList.toArray 0)).get? hp.objs.size = some (seqObj "list" acc.toList.toArray 0) := Heap.get?_push_size _ rfl
  refine wpAny_bind (wpAny_holding (wpAny_call_entry slot_list_sort ⟨_, hoL, rfl⟩ entry_list_sort (list_sort_treeKAny strKind_oneLt hoL S.keysOf (fun v₁ v₂ rest e => keyKind_strs (by rw [← e]; exact S)) lz fun st' a1 a2 => ⟨_, rfl, ?_⟩) (args_list_sort _)))
  obtain ⟨ys, b1, b2, b3⟩ := sorted_out_str S a1 a2
  refine wpAny_pure ⟨_, rfl, ?_⟩
  have hat := sortedHeap_at (out := (arrOf st').map (·.2)) hoL
  exact h hp _ tk ((arrOf st').map (·.2)).toList ys b1 b2 b3 kp (fun b o hb => by
    have lt : b < hp.objs.size := Heap.lt_size hb
    rw [sortedHeap_old (Nat.ne_of_lt lt) (by rw [Heap.size_push]; exact Nat.lt_succ_of_lt lt)]
    exact Heap.get?_push_of_some _ hb) hat
theorem rise_le : ∀ (c : Nat) (r : List Nat), risingS ⟨#[c]⟩ (r.map fun c => (⟨#[c]⟩ : Str)) = true → (c :: r).Pairwise (· ≤ ·)
  | c, [], _ => List.pairwise_singleton _ _
  | c, d :: r, h => by
    have h2 : (!ltCps [d] [c] && risingS ⟨#[d]⟩ (r.map fun c => (⟨#[c]⟩ : Str))) = true := h
    rw [Bool.and_eq_true] at h2
    have le : c ≤ d := by
      have q := h2.1
      rw [ltCps_eq] at q
      have q2 : decide ([d] < [c]) = false := by simpa using q
      have q3 := of_decide_eq_false q2
      rcases Nat.lt_or_ge d c with lt | ge
      · exact absurd (List.Lex.rel lt) q3
      · exact ge
    have ih := rise_le d r h2.2
    refine List.pairwise_cons.mpr ⟨fun y hy => ?_, ih⟩
    rcases List.mem_cons.mp hy with rfl | hy
    · exact le
    · exact Nat.le_trans le ((List.pairwise_cons.mp ih).1 y hy)
theorem sorted_le : ∀ r : List Nat, sortedS (r.map fun c => (⟨#[c]⟩ : Str)) = true → r.Pairwise (· ≤ ·)
  | [], _ => .nil
  | c :: r, h => rise_le c r h
theorem same_sorted : ∀ (l m : List Nat), l.Perm m → l.Pairwise (· ≤ ·) → m.Pairwise (· ≤ ·) → l = m
  | [], m, p, _, _ => (List.nil_perm.mp p).symm
  | a :: l, [], p, _, _ => absurd p.length_eq (by simp)
  | a :: l, b :: m, p, hl, hm => by
    have e : a = b := by
      have h1 : a ∈ b :: m := p.mem_iff.mp List.mem_cons_self
      have h2 : b ∈ a :: l := p.mem_iff.mpr List.mem_cons_self
      rcases List.mem_cons.mp h1 with e | h1
      · exact e
      rcases List.mem_cons.mp h2 with e | h2
      · exact e.symm
      exact Nat.le_antisymm ((List.pairwise_cons.mp hl).1 b h2) ((List.pairwise_cons.mp hm).1 a h1)
    subst e
    rw [same_sorted l m ((List.perm_cons a).mp p) (List.pairwise_cons.mp hl).2 (List.pairwise_cons.mp hm).2]
theorem ones_back : ∀ (ys : List Str) (cs : List Nat), ys.Perm (cs.map fun c => (⟨#[c]⟩ : Str)) → ∃ ds : List Nat, ys = (ds.map fun c => (⟨#[c]⟩ : Str)) ∧ ds.Perm cs := fun ys cs p => by
  have all : ∀ y ∈ ys, ∃ c, y = (⟨#[c]⟩ : Str) := fun y hy => by
    obtain ⟨c, _, e⟩ := List.mem_map.mp (p.mem_iff.mp hy)
    exact ⟨c, e.symm⟩
  have back : ∀ zs : List Str, (∀ y ∈ zs, ∃ c, y = (⟨#[c]⟩ : Str)) → zs = ((zs.map fun y => y.cps.toList.headD 0).map fun c => (⟨#[c]⟩ : Str)) := fun zs h => by
    rw [List.map_map]
    have e : zs.map id = zs.map ((fun c => (⟨#[c]⟩ : Str)) ∘ fun y => y.cps.toList.headD 0) := List.map_congr_left fun y hy => by
      obtain ⟨c, rfl⟩ := h y hy
      rfl
    rw [List.map_id] at e
    exact e
  refine ⟨ys.map fun y => y.cps.toList.headD 0, back ys all, ?_⟩
  have q := p.map fun y : Str => y.cps.toList.headD 0
  rw [List.map_map] at q
  have e : cs.map ((fun y : Str => y.cps.toList.headD 0) ∘ fun c => (⟨#[c]⟩ : Str)) = cs.map id := List.map_congr_left fun c _ => rfl
  rw [e, List.map_id] at q
  exact q
def rSortedTx : List V → Hp → VK → Prop := fun vs H Q => ∃ z : Str, vs = [.str z] ∧ z.length ≤ 1000000 ∧ ∀ (cs : List Nat) (p : Addr), cs.Perm z.cps.toList → cs.Pairwise (· ≤ ·) → H p = none → Q (.ref p) (upd H p (.lst (cs.map fun c => V.str ⟨#[c]⟩)))
theorem cr_sortedTx {X : Cx} (hc : X.calm = true) : CallR X (.builtin "sorted") rSortedTx := by
  intro pins s σ H vs us Q I r h
  obtain ⟨z, rfl, hz, q⟩ := h
  obtain ⟨u, rfl, ru⟩ := vals1 r
  obtain ⟨t, rfl⟩ := ru
  refine sorted_tx (I.ok.hd hc) (Nat.le_trans hz (by decide)) fun hp h' tk out ys k1 k2 k3 k4 k5 k6 => ?_
  obtain ⟨cs, rfl, pc⟩ := ones_back ys _ k2
  obtain ⟨n, hn⟩ := k6
  have free : H hp.objs.size = none := (I.hok.kept k4).fresh (Nat.le_refl _)
  have gone : s.heap.get? hp.objs.size = none := by
    cases e : s.heap.get? hp.objs.size with
    | none => rfl
    | some o => exact absurd (Heap.lt_size (k4 _ _ e)) (Nat.lt_irrefl _)
  have hlen : (cs.map fun c => V.str ⟨#[c]⟩).length ≤ sizeLine := by
    rw [List.length_map, pc.length_eq, Array.length_toList]
    exact Nat.le_trans hz (by decide)
  have ev : ((cs.map fun c => (⟨#[c]⟩ : Str)).map V.str) = cs.map fun c => V.str ⟨#[c]⟩ := by rw [List.map_map]; rfl
  have vs := vals_of_strs k1
  rw [ev] at vs
  exact ⟨.ref _, upd H hp.objs.size (.lst (cs.map fun c => V.str ⟨#[c]⟩)), I.laidN (t' := tk) (fun b o e => k5 b o (k4 b o e)) gone free ⟨hlen, out, n, vs, hn⟩, rfl, q cs _ pc (sorted_le cs k3) free⟩
end

/-! ### list of a text -/
section
open PySem.Spec PyProof.Rows
def rListTx : List V → Hp → VK → Prop := fun vs H Q => ∃ z : Str, vs = [.str z] ∧ z.length ≤ 1000000 ∧ ∀ p : Addr, H p = none → Q (.ref p) (upd H p (.lst (z.cps.toList.map fun c => V.str ⟨#[c]⟩)))
theorem cr_listTx {X : Cx} (hc : X.calm = true) : CallR X (.type "list") rListTx := by
  intro pins s σ H vs us Q I r h
  obtain ⟨z, rfl, hz, q⟩ := h
  obtain ⟨u, rfl, ru⟩ := vals1 r
  obtain ⟨t, rfl⟩ := ru
  refine PySem.call_list_str (I.ok.hd hc) z t (fun h' tk acc c kp e items => ?_) (Nat.le_trans hz (by decide))
  have S : StrsAre acc.toList (z.cps.toList.map fun c => (⟨#[c]⟩ : Str)) := by
    refine strs_of_items (z := z) acc.toList z.cps.toList ?_ fun i v hv => ?_
    · rw [Array.length_toList, Array.length_toList]
      exact items.1
    · rw [Array.getElem?_toList] at hv
      obtain ⟨c, u, e1, e2⟩ := items.2 i v hv
      exact ⟨c, u, by rw [Array.getElem?_toList]; exact e1, e2⟩
  have ev : ((z.cps.toList.map fun c => (⟨#[c]⟩ : Str)).map V.str) = z.cps.toList.map fun c => V.str ⟨#[c]⟩ := by rw [List.map_map]; rfl
  have vs := vals_of_strs S
  rw [ev] at vs
  have hlen : (z.cps.toList.map fun c => V.str ⟨#[c]⟩).length ≤ sizeLine := by
    rw [List.length_map, Array.length_toList]
    exact Nat.le_trans hz (by decide)
  exact ⟨.ref _, upd H s.heap.objs.size (.lst (z.cps.toList.map fun c => V.str ⟨#[c]⟩)), I.laid (t' := tk) kp (Nat.le_refl _) ⟨hlen, acc.toList, c, vs, by rw [e]⟩, rfl, q _ (I.hok.fresh (Nat.le_refl _))⟩
end

/-! ### a drawn form that is written as lines -/
structure Fm where
  groups : List Str
  rows : List (List Nat)
  good : List Nat
def Fm.d (f : Fm) : PyData := .tuple [.tuple (f.groups.map .str), .tuple (f.rows.map wordD), wordD f.good]
structure F92 (f : Fm) (m : Nat) : Prop where
  m1 : 1 ≤ m
  m4 : m ≤ 4
  g3 : f.groups.length ≤ 3
  rl : f.rows.length = m
  rr : ∀ row ∈ f.rows, row.length = f.groups.length + 1 ∧ ∀ x ∈ row, x < m
  gl : ∀ z ∈ f.groups, (∀ c ∈ z.cps.toList, 97 ≤ c ∧ c ≤ 122) ∧ 1 ≤ z.length ∧ z.length ≤ 26 ∧ z.cps.toList.Pairwise (· < ·)
  nd : (f.groups.flatMap fun z => z.cps.toList).Nodup
  gp : f.good.Pairwise (· < ·)
  gm : ∀ x ∈ f.good, x < m
theorem iN_len (l : List Nat) : ((iN l).map V.int).length = l.length := by
  unfold iN
  rw [List.length_map, List.length_map]
theorem ix_nat {n j : Nat} (hj : j < n) : ixN n (j : Int) = some j := by
  unfold ixN
  rw [if_pos (by omega), if_pos (by omega)]
  exact congrArg some (by omega)
theorem call_lenK {X : Cx} (K : PySem.W.Frag) (h : X.K = K := by rfl) : CallR X (.builtin "len") (fun xs H Q => ∃ p ys, xs = [.ref p] ∧ (SqL K H p ys ∨ SqT K H p ys) ∧ Q (.int (ys.length : Nat)) H) := by
  rw [← h]
  exact call_len_seq
theorem call_tupK {X : Cx} (K : PySem.W.Frag) (h : X.K = K := by rfl) : CallR X (.type "tuple") (fun xs H Q => ∃ p ys, xs = [.ref p] ∧ ((SqL K H p ys ∧ ∀ l, H l = none → Q (.ref l) (upd H l (.tup ys))) ∨ (SqT K H p ys ∧ Q (.ref p) H))) := by
  rw [← h]
  exact call_tuple_of
def ab6 : List Nat := [97, 98, 99, 120, 121, 122]
theorem abc6_list : ("abcxyz" : Str).cps.toList = ab6 := by decide +kernel
theorem ab6_nd : ab6.Nodup := by decide
theorem ab6_low : ∀ c ∈ ab6, 97 ≤ c ∧ c ≤ 122 := by decide
def oneS (c : Nat) : Str := ⟨#[c]⟩
def flatS (gs : List Str) : List Nat := gs.flatMap fun z => z.cps.toList
/-- letters left, groups so far, how many -/
structure G6 (ls : List Nat) (gs : List Str) (i : Nat) : Prop where
  pm : (ls ++ flatS gs).Perm ab6
  gl : gs.length = i
  few : 6 ≤ ls.length + 2 * i
  up : ∀ z ∈ gs, z.cps.toList.Pairwise (· ≤ ·) ∧ 1 ≤ z.length
theorem join_ones (cs : List Nat) : (Txt.join "" (cs.map oneS)).cps.toList = cs := by
  rw [join_cps]
  induction cs with
  | nil => rfl
  | cons c r ih =>
    rw [List.map_cons, List.map_cons, List.flatten_cons, ih]
    rfl
theorem flatS_push (gs : List Str) (z : Str) : flatS (gs ++ [z]) = flatS gs ++ z.cps.toList := by
  unfold flatS
  rw [List.flatMap_append, List.flatMap_cons, List.flatMap_nil, List.append_nil]
theorem G6.push {ls ms cs : List Nat} {gs : List Str} {i : Nat} (pm : (ls ++ (ms ++ flatS gs)).Perm ab6) (gl : gs.length = i) (few : 6 ≤ ls.length + 2 * (i + 1)) (up : ∀ z ∈ gs, z.cps.toList.Pairwise (· ≤ ·) ∧ 1 ≤ z.length) (h1 : 1 ≤ ms.length) (pc : cs.Perm ms) (hs : cs.Pairwise (· ≤ ·)) : G6 ls (gs ++ [Txt.join "" (cs.map oneS)]) (i + 1) := by
  refine ⟨?_, by rw [List.length_append, gl]; rfl, few, fun z hz => ?_⟩
  · rw [flatS_push, join_ones]
    refine (List.Perm.append_left ls ?_).trans pm
    exact (List.Perm.append_left _ pc).trans List.perm_append_comm
  · rcases List.mem_append.mp hz with hz | hz
    · exact up z hz
    · rw [List.mem_singleton.mp hz]
      refine ⟨by rw [join_ones]; exact hs, ?_⟩
      have e : (Txt.join "" (cs.map oneS)).length = cs.length := by
        show (Txt.join "" (cs.map oneS)).cps.size = _
        rw [← Array.length_toList, join_ones]
      rw [e, pc.length_eq]
      exact h1
theorem le_lt {l : List Nat} (h : l.Pairwise (· ≤ ·)) (nd : l.Nodup) : l.Pairwise (· < ·) := by
  induction l with
  | nil => exact .nil
  | cons x r ih =>
    rw [List.pairwise_cons] at h ⊢
    rw [List.nodup_cons] at nd
    exact ⟨fun y hy => Nat.lt_of_le_of_ne (h.1 y hy) fun e => nd.1 (e ▸ hy), ih h.2 nd.2⟩
theorem G6.done {ls : List Nat} {gs : List Str} {i : Nat} (h : G6 ls gs i) : (flatS gs).Nodup ∧ ∀ z ∈ gs, (∀ c ∈ z.cps.toList, 97 ≤ c ∧ c ≤ 122) ∧ 1 ≤ z.length ∧ z.length ≤ 26 ∧ z.cps.toList.Pairwise (· < ·) := by
  have nd := (h.pm.nodup_iff).mpr ab6_nd
  have n2 := (List.nodup_append.mp nd).2.1
  refine ⟨n2, fun z hz => ?_⟩
  have low : ∀ c ∈ z.cps.toList, 97 ≤ c ∧ c ≤ 122 := fun c hc => ab6_low c (h.pm.subset (List.mem_append_right _ (List.mem_flatMap.mpr ⟨z, hz, hc⟩)))
  have zn : z.cps.toList.Nodup := by
    obtain ⟨a, b, rfl⟩ := List.append_of_mem hz
    unfold flatS at n2
    rw [List.flatMap_append, List.flatMap_cons] at n2
    exact (List.nodup_append.mp (List.nodup_append.mp n2).2.1).1
  have zl : z.cps.toList.length ≤ 6 := by
    have q := h.pm.length_eq
    obtain ⟨a, b, rfl⟩ := List.append_of_mem hz
    unfold flatS at q
    rw [List.flatMap_append, List.flatMap_cons, List.length_append, List.length_append, List.length_append] at q
    have e : ab6.length = 6 := rfl
    omega
  refine ⟨low, (h.up z hz).2, ?_, le_lt (h.up z hz).1 zn⟩
  show z.cps.size ≤ 26
  rw [← Array.length_toList]
  omega

/-! ### lists of data that are being made -/
/-- a list of data that is being made -/
def LAt (H : Hp) (R : Addr) (ds : List PyData) : Prop := ∃ vs, H R = some (.lst vs) ∧ TpAll H vs ds
theorem LAt.kp {p c R : Addr} {H1 H2 : Hp} {ds : List PyData} (h : LAt H1 R ds) (n : R ≠ p) (hP : Pen H1 p c) (k : Kp p c H1 H2) : LAt H2 R ds := by
  obtain ⟨vs, h1, h2⟩ := h
  exact ⟨vs, k.but _ _ n h1, h2.mono (k.tk hP)⟩
theorem LAt.same {R : Addr} {H1 H2 : Hp} {ds : List PyData} (h : LAt H1 R ds) (s : Same H1 H2) : LAt H2 R ds := by
  obtain ⟨vs, h1, h2⟩ := h
  exact ⟨vs, s _ _ h1, h2.mono (Same.tk s)⟩
theorem LAt.put {R q : Addr} {H1 : Hp} {ys : List V} {o : HO} {ds : List PyData} (h : LAt H1 R ds) (hq : H1 q = some (.lst ys)) (n : R ≠ q) : LAt (upd H1 q o) R ds := by
  obtain ⟨vs, h1, h2⟩ := h
  exact ⟨vs, by rw [upd_ne n]; exact h1, h2.mono (tk_lst hq)⟩
theorem LAt.push {R : Addr} {H1 : Hp} {vs : List V} {x : V} {d : PyData} {ds : List PyData} (hv : H1 R = some (.lst vs)) (ha : TpAll H1 vs ds) (hx : Tp H1 x d) : LAt (upd H1 R (.lst (vs ++ [x]))) R (ds ++ [d]) :=
  ⟨vs ++ [x], upd_same, (ha.mono (tk_lst hv)).app (.cons (hx.mono (tk_lst hv)) .nil)⟩

def nLF : List Str := ["pen", "letters", "groups", "lap", "some", "turn", "states", "rows", "place", "state", "good"]
theorem sc_lform : FnScope nLF ["pen"] (fnScope st_law_form) := fnScope_by (by decide +kernel)
def blkLF : Scope := { kind := .function, names := [(".0", .local), ("state", .local), ("tuple", .globalImplicit), ("range", .globalImplicit), ("len", .globalImplicit), ("groups", .cell), ("pen", .cell), ("states", .cell)], isGenerator := false, isCoroutine := false }
def spLForm : Sp := fun vs H Q _ => ∃ (p c : Addr), vs = [.ref p] ∧ Pen H p c ∧ ∀ (f : Fm) (m : Nat) (t : Addr) H', F92 f m → Kp p c H H' → Tp H' (.ref t) f.d → Q (.ref t) H'
theorem low10 {n : Nat} (h : n ≤ 1000) : n < sizeLine := Nat.lt_of_le_of_lt h (by decide)
section
variable {P : Program} {w : World} {K : PySem.W.Frag} {mg : Str → Option Value} {base : Heap} {f : Addr} {fd : FuncData}
set_option maxHeartbeats 20000000 in
theorem cal_lform (F : C8.Def K mg "_law_form" st_law_form f fd) (b : Binds K fd ["pen"] []) (B : BN2 mg) (Bs : mg "sorted" = none) (Cd : Cal P w K mg base 2 "_law_draw" spDraw []) : Cal P w K mg base 3 "_law_form" spLForm [] := by
  refine cal0 F b .nil sc_lform (fun vs H Q E h => ?_) (fun cdv A outer s H vs Q E hr h => ?_)
  · obtain ⟨p, c, rfl, _⟩ := h
    rfl
  · obtain ⟨p, c, rfl, hP, k⟩ := h
    refine ⟨_, pss_cons (ps_asg (pe_tup (pa_cons (pe_callTy (cr_listTx (by rfl)) (by rfl) B.list (by decide +kernel) (pa_cons pe_str pa_nil)) (pa_cons (pe_lst pa_nil) pa_nil)))
        (pg_tup rfl (pgs_cons (pg_name (i := 1) sc_lform.nd rfl (Or.inr rfl)) (pgs_cons (pg_name (i := 2) sc_lform.nd rfl (Or.inr rfl)) pgs_nil))))
      (pss_cons (ps_for PassesOwn.never rfl (pi_range1 rfl B.range (pa_cons (pe_c Cd hr (by decide) (by rfl) (pa_cons (pv 0) (pa_cons pe_int pa_nil))) pa_nil)) (pg_name (i := 3) sc_lform.nd rfl (Or.inl rfl))
        (pss_cons (ps_set (i := 4) sc_lform.nd rfl (Or.inl rfl) (pe_callB cr_sortedS (by rfl) Bs (by decide +kernel) (pa_cons (pe_lc (own := [("turn", 5)]) (g := gName 5) (tt := tYes) (by rfl) sc_lform.nd (pi_range1 rfl B.range (pa_cons (pe_op op_add pe_int (pe_c Cd hr (by decide) (by rfl) (pa_cons (pv 0) (pa_cons pe_int pa_nil)))) pa_nil))
            (blkOk_by (own := [("turn", 5)]) (N := nLF) (sc := fnScope st_law_form) (by decide +kernel)) (fun _ _ _ _ _ => pg_name (i := 5) sc_lform.nd rfl (Or.inl rfl)) (fun _ _ _ _ _ => pts_nil)
            (fun _ _ _ _ _ => show PE _ _ (tBM K _ _ _ _) from pe_bm PySem.F.plainAttrs_list PySem.F.slot_list_pop PySem.F.type_list_pop mt_popAt (pv 1) (pa_cons (pe_c Cd hr (by decide) (by rfl) (pa_cons (pv 0) (pa_cons (pe_callB (call_lenK K) (by rfl) B.len PySem.boot_len (pa_cons (pv 1) pa_nil)) pa_nil))) pa_nil))) pa_nil)))
        (pss_one (ps_expr (pe_bm PySem.F.plainAttrs_list PySem.F.slot_list_append PySem.F.type_list_append mt_append (pv 2) (pa_cons (pe_join pe_str (pv 4)) pa_nil))))))
      (pss_cons (ps_set (i := 6) sc_lform.nd rfl (Or.inr rfl) (pe_op op_add pe_int (pe_c Cd hr (by decide) (by rfl) (pa_cons (pv 0) (pa_cons pe_int pa_nil)))))
      (pss_cons (ps_setLc (i := 7) (own := [("state", 9)]) (g := gName 9) (tt := tYes) (by rfl) sc_lform.nd rfl rfl (sw_true rfl rfl rfl (by decide +kernel)) (pi_range1 rfl B.range (pa_cons (pv 6) pa_nil))
        (blkOk_by (own := [("state", 9)]) (N := nLF) (sc := fnScope st_law_form) (by decide +kernel)) (fun _ _ _ _ _ => pg_name (i := 9) sc_lform.nd rfl (Or.inl rfl)) (fun _ _ _ _ _ => pts_nil)
        (fun _ _ _ _ _ => pe_callTy (call_tupK K) (by rfl) B.tuple (by decide +kernel) (pa_cons (pe_lc (own := [("place", 8)]) (g := gName 8) (tt := tYes) (by rfl) sc_lform.nd (pi_range1 rfl B.range (pa_cons (pe_op op_add (pe_callB (call_lenK K) (by rfl) B.len PySem.boot_len (pa_cons (pv 2) pa_nil)) pe_int) pa_nil))
          (blkOk_by (own := [("place", 8)]) (N := nLF) (sc := blkLF) (by decide +kernel)) (fun _ _ _ _ _ => pg_name (i := 8) sc_lform.nd rfl (Or.inl rfl)) (fun _ _ _ _ _ => pts_nil)
          (fun _ _ _ _ _ => pe_c Cd hr (by decide) (by rfl) (pa_cons (pv 0) (pa_cons (pv 6) pa_nil)))) pa_nil)))
      (pss_cons (ps_set (i := 10) sc_lform.nd rfl (Or.inl rfl) (pe_callTy call_tuple_of (by rfl) B.tuple (by decide +kernel) (pa_cons (pe_lc (own := [("state", 9)]) (g := gName 9) (tt := tTest (tOp rEq (tCall spDraw [] C8.E0 (tCons (tVar 0) (tCons (tC (.int 2)) tNil))) (tC (.int 0)))) (by rfl) sc_lform.nd (pi_range1 rfl B.range (pa_cons (pv 6) pa_nil))
          (blkOk_by (own := [("state", 9)]) (N := nLF) (sc := fnScope st_law_form) (by decide +kernel)) (fun _ _ _ _ _ => pg_name (i := 9) sc_lform.nd rfl (Or.inl rfl)) (fun _ _ _ _ _ => pts_one (pt_cmpR op_eq (pe_c Cd hr (by decide) (by rfl) (pa_cons (pv 0) (pa_cons pe_int pa_nil))) pe_int (nomark _)))
          (fun _ _ _ _ _ => pv 9)) pa_nil)))
      (pss_one (ps_ret (pe_tup (pa_cons (pe_callTy call_tuple_of (by rfl) B.tuple (by decide +kernel) (pa_cons (pv 2) pa_nil)) (pa_cons (pe_callTy call_tuple_of (by rfl) B.tuple (by decide +kernel) (pa_cons (pv 7) pa_nil)) (pa_cons (pv 10) pa_nil)))))))))), ?_⟩
    refine ⟨"abcxyz", rfl, by decide, fun La hLa => ⟨Nat.zero_le _, fun Ga hGa => ⟨(by show 2 ≤ sizeLine; decide), fun t0 ht0 => ⟨t0, _, rfl, SqT.of upd_same, rfl, _, _, rfl, _, _, rfl, rfl, ?_⟩⟩⟩⟩
    rw [abc6_list] at ht0 ⊢
    have nLG : La ≠ Ga := ne_of_none upd_same hGa
    have Ga0 : H Ga = none := Same.free (same_new hLa) hGa
    have nLp : La ≠ p := hP.ne hLa
    have nGp : Ga ≠ p := hP.ne Ga0
    rw [abc6_list] at hGa
    have k0 := (((Kp.rfl' hP).new (o := .lst (ab6.map fun c => V.str ⟨#[c]⟩)) hLa).new (o := .lst []) hGa).new (o := .tup [.ref La, .ref Ga]) ht0
    have e1 : upd (upd (upd H La (.lst (ab6.map fun c => V.str ⟨#[c]⟩))) Ga (.lst [])) t0 (.tup [.ref La, .ref Ga]) La = some (.lst (((ab6.map oneS)).map V.str)) := by
      have q : upd (upd H La (.lst (ab6.map fun c => V.str ⟨#[c]⟩))) Ga (.lst []) La = some (.lst (ab6.map fun c => V.str ⟨#[c]⟩)) := by rw [upd_ne nLG, upd_same]
      rw [upd_ne (ne_of_none q ht0), q]
      rfl
    have e2 : upd (upd (upd H La (.lst (ab6.map fun c => V.str ⟨#[c]⟩))) Ga (.lst [])) t0 (.tup [.ref La, .ref Ga]) Ga = some (.lst (([] : List Str).map V.str)) := by
      rw [upd_ne (ne_of_none upd_same ht0), upd_same]
      rfl
    generalize upd (upd (upd H La (.lst (ab6.map fun c => V.str ⟨#[c]⟩))) Ga (.lst [])) t0 (.tup [.ref La, .ref Ga]) = H1 at k0 e1 e2 ⊢
    clear ht0 hGa
    refine ⟨_, rfl, p, c, 4, rfl, k0.pen, by decide, by decide, fun d H2 d0 d1 k1 => ⟨d, rfl, by omega, by omega, ?_⟩⟩
    refine for_range (n := d.toNat) (fun i σ H' => (∃ v3 v4 : Option V, σ = [some (.ref p), some (.ref La), some (.ref Ga), v3, v4, none, none, none, none, none, none]) ∧ Kp p c H H' ∧ ∃ (ls : List Nat) (gs : List Str), H' La = some (.lst ((ls.map oneS).map V.str)) ∧ H' Ga = some (.lst (gs.map V.str)) ∧ G6 ls gs i)
      ⟨⟨_, _, rfl⟩, k0.trans k1, ab6, [], k1.but _ _ nLp e1, k1.but _ _ nGp e2, (by show (ab6 ++ []).Perm ab6; rw [List.append_nil]), rfl, (by decide), fun z hz => (by cases hz)⟩ ?_ ?_
    · rintro i σ H3 hi ⟨⟨v3, v4, rfl⟩, k3, ls, gs, hL, hG, g6⟩
      have i3 : i < 3 := by omega
      have few := g6.few
      refine ⟨_, rfl, p, c, 2, rfl, k3.pen, by decide, by decide, fun e H4 e0 e1 k4 => ⟨_, _, rfl, rfl, _, rfl, ?_, ?_, fun E hE => ?_⟩⟩
      · omega
      · omega
      have k34 := k3.trans k4
      have hL4 := k4.but _ _ nLp hL
      have hG4 := k4.but _ _ nGp hG
      have E0 : H E = none := k34.free hE
      have nEp : E ≠ p := hP.ne E0
      have nEL : La ≠ E := ne_of_none hL4 hE
      have nEG : Ga ≠ E := ne_of_none hG4 hE
      refine lc_range (lo := 0) (fun j H' => Kp p c H H' ∧ H' Ga = some (.lst (gs.map V.str)) ∧ ∃ ls' ms : List Nat, H' La = some (.lst ((ls'.map oneS).map V.str)) ∧ H' E = some (.lst ((ms.map oneS).map V.str)) ∧ ms.length = j ∧ ls'.length + j = ls.length ∧ (ls' ++ (ms ++ flatS gs)).Perm ab6)
        ⟨k34.new hE, by rw [upd_ne nEG]; exact hG4, ls, [], by rw [upd_ne nEL]; exact hL4, upd_same, rfl, rfl, g6.pm⟩ ?_ ?_
      · rintro j H5 hj ⟨k5, hG5, ls', ms, hL5, hE5, mj, lj, pm⟩
        have hpos : 1 ≤ ls'.length := by omega
        have l6 : ls'.length ≤ 6 := by
          have q := pm.length_eq
          rw [List.length_append] at q
          have e : ab6.length = 6 := rfl
          omega
        have len : ((ls'.map oneS).map V.str).length = ls'.length := by rw [List.length_map, List.length_map]
        refine ⟨rfl, _, rfl, .inl ⟨rfl, _, SqL.of hL5⟩, _, rfl, _, rfl, La, _, rfl, .inl (SqL.of hL5), p, c, _, rfl, k5.pen, by omega, log_small (by omega) (by omega), fun d5 H6 q0 q1 k6 => ?_⟩
        obtain ⟨x, rfl⟩ : ∃ x : Nat, d5 = (x : Int) := ⟨d5.toNat, by omega⟩
        have xl : x < ls'.length := by omega
        have hL6 := k6.but _ _ nLp hL5
        have hE6 := k6.but _ _ nEp hE5
        have hG6 := k6.but _ _ nGp hG5
        have at_ : ((ls'.map oneS).map V.str)[x]? = some (V.str (oneS ls'[x])) := by
          rw [List.getElem?_map, List.getElem?_map, List.getElem?_eq_getElem xl]
          rfl
        have er : ((ls'.map oneS).map V.str).eraseIdx x = ((ls'.eraseIdx x).map oneS).map V.str := by
          rw [erase_map, erase_map]
        refine ⟨La, _, _, x, _, rfl, rfl, hL6, by omega, by omega, (ixN_seq (ix_nat (by omega))).1, at_, ?_⟩
        rw [er]
        have k56 := (k5.trans k6)
        refine ⟨_, by rw [upd_ne (Ne.symm nEL)]; exact hE6, ?_, ((k56.put hP hLa).put hP E0), ?_, ls'.eraseIdx x, ms ++ [ls'[x]], ?_, ?_, ?_, ?_, ?_⟩
        · rw [List.length_map, List.length_map]
          exact low10 (by omega)
        · rw [upd_ne nEG, upd_ne (Ne.symm nLG)]
          exact hG6
        · rw [upd_ne nEL, upd_same]
        · rw [upd_same, List.map_append, List.map_append]
          rfl
        · rw [List.length_append, mj]
          rfl
        · rw [List.length_eraseIdx_of_lt xl]
          omega
        · refine List.Perm.trans ?_ pm
          have q := erase_perm ls' x xl
          have q2 : (ls'.eraseIdx x ++ (ms ++ [ls'[x]] ++ flatS gs)).Perm ((ls'[x] :: ls'.eraseIdx x) ++ (ms ++ flatS gs)) := by
            rw [List.append_assoc, List.singleton_append]
            refine (List.Perm.append_left _ List.perm_middle).trans ?_
            exact List.perm_middle
          exact q2.trans (q.append_right _)
      · rintro H5 ⟨k5, hG5, ls', ms, hL5, hE5, mj, lj, pm⟩
        have m2 : ms.length ≤ 2 := by omega
        refine ⟨E, ms.map oneS, rfl, SqL.of hE5, by rw [List.length_map]; omega, fun ys sp pys sys hsp => ?_⟩
        obtain ⟨cs, rfl, pc⟩ := ones_back ys ms pys
        have hs := sorted_le cs sys
        have s5 := same_new (o := .lst ((cs.map fun c => (⟨#[c]⟩ : Str)).map V.str)) hsp
        have jl : ((cs.map oneS).map (·.length)).sum = cs.length := by
          have : ∀ l : List Nat, ((l.map oneS).map (·.length)).sum = l.length := fun l => by
            induction l with
            | nil => rfl
            | cons x r ih =>
              rw [List.map_cons, List.map_cons, List.sum_cons, ih, List.length_cons]
              show 1 + r.length = r.length + 1
              omega
          exact this cs
        refine ⟨_, rfl, .inl ⟨rfl, _, SqL.of (s5 _ _ hG5)⟩, ⟨_, rfl⟩, _, rfl, _, sp, cs.map oneS, rfl, rfl, .inl (SqL.of upd_same), ?_, Ga, _, _, rfl, rfl, s5 _ _ hG5, ?_, ⟨_, _, rfl⟩, ?_, ls', gs ++ [Txt.join "" (cs.map oneS)], ?_, ?_, ?_⟩
        · have e : ("" : Str).length = 0 := by decide
          rw [jl, e, Nat.mul_zero, pc.length_eq]
          exact Nat.le_trans (show _ ≤ 1000 by omega) (by decide)
        · rw [List.length_map, g6.gl]
          exact low10 (by omega)
        · exact (k5.same s5).put hP Ga0
        · rw [upd_ne nLG]
          exact s5 _ _ hL5
        · rw [upd_same, List.map_append]
          rfl
        · exact G6.push pm g6.gl (by omega) g6.up (by omega) pc hs
    · rintro σ H3 ⟨⟨v3, v4, rfl⟩, k3, ls, gs, hL, hG, g6⟩
      have gl := g6.gl
      have g3 : gs.length ≤ 3 := by omega
      obtain ⟨nd, each⟩ := g6.done
      have lg : (gs.map V.str).length = gs.length := List.length_map ..
      clear hL
      refine ⟨_, rfl, p, c, 4, rfl, k3.pen, by decide, by decide, fun e H4 e0 e1 k4 => ⟨_, _, rfl, rfl, ?_⟩⟩
      obtain ⟨m, hm⟩ : ∃ m : Nat, 1 + e = (m : Int) := ⟨(1 + e).toNat, by omega⟩
      show gName 6 (V.int (1 + e)) _ _ _
      rw [hm]
      have kA := k3.trans k4
      have hgA := k4.but _ _ nGp hG
      refine ⟨_, rfl, m, rfl, by omega, by omega, fun D hD => ?_⟩
      have nGD : Ga ≠ D := ne_of_none hgA hD
      refine lc_range (lo := 0) (n := (m : Int).toNat) (fun i H' => Kp p c H H' ∧ H D = none ∧ H' Ga = some (.lst (gs.map V.str)) ∧ ∃ rows : List (List Nat), LAt H' D (rows.map wordD) ∧ rows.length = i ∧ ∀ row ∈ rows, row.length = gs.length + 1 ∧ ∀ x ∈ row, x < m)
        ⟨kA.new hD, kA.free hD, same_new hD _ _ hgA, [], ⟨[], upd_same, .nil⟩, rfl, fun row hr => (by cases hr)⟩ ?_ ?_
      · rintro i H4 hi ⟨k4, D0, hg4, rows, hL, rl, rr⟩
        have i4 : i < 4 := Nat.lt_of_lt_of_le hi (show (m : Int).toNat ≤ 4 by omega)
        refine ⟨rfl, ?_⟩
        refine ⟨_, rfl, Ga, _, rfl, .inl (SqL.of hg4), _, _, rfl, rfl, _, rfl, ?_, ?_, fun E hE => ?_⟩
        · omega
        · omega
        have E0 : H E = none := k4.free hE
        have nE : E ≠ p := hP.ne E0
        have nEg : Ga ≠ E := ne_of_none hg4 hE
        have nDp : D ≠ p := hP.ne D0
        have nDE : D ≠ E := by
          obtain ⟨us, hu, _⟩ := hL
          exact ne_of_none hu hE
        refine lc_range (lo := 0) (fun j H' => Kp p c H H' ∧ H' Ga = some (.lst (gs.map V.str)) ∧ LAt H' D (rows.map wordD) ∧ ∃ ns : List Nat, H' E = some (.lst ((iN ns).map V.int)) ∧ ns.length = j ∧ ∀ x ∈ ns, x < m)
          ⟨k4.new hE, same_new hE _ _ hg4, hL.same (same_new hE), [], upd_same, rfl, fun x hx => (by cases hx)⟩ ?_ ?_
        · rintro j H5 hj ⟨k5, hg5, hL5, ns, hE5, nl, nb⟩
          refine ⟨rfl, _, rfl, _, rfl, p, c, m, rfl, k5.pen, by omega, log_small (by omega) (by omega), fun d5 H6 e0 e1 k6 => ?_⟩
          obtain ⟨x, rfl⟩ : ∃ x : Nat, d5 = (x : Int) := ⟨d5.toNat, by omega⟩
          have hE6 := k6.but _ _ nE hE5
          have hg6 := k6.but _ _ nGp hg5
          have hL6 := hL5.kp nDp k5.pen k6
          refine ⟨_, hE6, ?_, (k5.trans k6).put hP E0, ?_, hL6.put hE6 nDE, ns ++ [x], ?_, ?_, ?_⟩
          · rw [iN_len]
            exact low10 (by omega)
          · rw [upd_ne nEg]
            exact hg6
          · rw [upd_same, iN_app]
          · rw [List.length_append, nl]
            rfl
          · intro y hy
            rcases List.mem_append.mp hy with hy | hy
            · exact nb y hy
            · rw [List.mem_singleton.mp hy]
              omega
        · rintro H5 ⟨k5, hg5, hL5, ns, hE5, nl, nb⟩
          refine ⟨E, _, rfl, .inl ⟨SqL.of hE5, fun t ht => ?_⟩⟩
          have s5 := same_new (o := .tup ((iN ns).map V.int)) ht
          obtain ⟨us, hu, au⟩ := hL5.same s5
          refine ⟨us, hu, ?_, (k5.new ht).put hP D0, D0, ?_, rows ++ [ns], ?_, ?_, ?_⟩
          · rw [au.len, List.length_map, rl]
            exact low10 (by omega)
          · rw [upd_ne nGD]
            exact s5 _ _ hg5
          · rw [List.map_append]
            exact LAt.push hu au (tp_word upd_same)
          · rw [List.length_append, rl]
            rfl
          · intro row hm2
            rcases List.mem_append.mp hm2 with hm2 | hm2
            · exact rr row hm2
            · rw [List.mem_singleton.mp hm2]
              exact ⟨by omega, nb⟩
      · rintro H4 ⟨k4, D0, hg4, rows, hL, rl, rr⟩
        obtain ⟨us, hu, au⟩ := hL
        refine ⟨_, rfl, m, rfl, by omega, by omega, fun E hE => ?_⟩
        have E0 : H E = none := k4.free hE
        have nE : E ≠ p := hP.ne E0
        have nEg : Ga ≠ E := ne_of_none hg4 hE
        have nDE : D ≠ E := ne_of_none hu hE
        have nDp : D ≠ p := hP.ne D0
        refine lc_range (lo := 0) (n := (m : Int).toNat) (fun i H' => Kp p c H H' ∧ H' Ga = some (.lst (gs.map V.str)) ∧ LAt H' D (rows.map wordD) ∧ ∃ gd : List Nat, H' E = some (.lst ((iN gd).map V.int)) ∧ gd.Pairwise (· < ·) ∧ (∀ x ∈ gd, x < i) ∧ gd.length ≤ i)
          ⟨k4.new hE, same_new hE _ _ hg4, (show LAt H4 D _ from ⟨us, hu, au⟩).same (same_new hE), [], upd_same, .nil, fun x hx => (by cases hx), Nat.le_refl _⟩ ?_ ?_
        · rintro i H6 hi ⟨k6, hg6, hL6, gd, hG6, gp, gm, gl2⟩
          have i4 : i < 4 := Nat.lt_of_lt_of_le hi (show (m : Int).toNat ≤ 4 by omega)
          refine ⟨rfl, _, rfl, p, c, 2, rfl, k6.pen, by decide, by decide, fun e5 H7 e0 e1 k7 => ⟨rfl, _, rfl, ?_⟩⟩
          have hG7 := k7.but _ _ nE hG6
          have hg7 := k7.but _ _ nGp hg6
          have hL7 := hL6.kp nDp k6.pen k7
          have k67 := k6.trans k7
          refine ite2 (fun _ => ⟨_, rfl, _, hG7, ?_, k67.put hP E0, ?_, hL7.put hG7 nDE, gd ++ [i], ?_, ?_, ?_, ?_⟩) (fun _ => ⟨k67, hg7, hL7, gd, hG7, gp, fun x hx => Nat.lt_succ_of_lt (gm x hx), Nat.le_succ_of_le gl2⟩)
          · rw [iN_len]
            exact low10 (by omega)
          · rw [upd_ne nEg]
            exact hg7
          · rw [upd_same, iN_app]
            show some (HO.lst (_ ++ [V.int (0 + (i : Int))])) = _
            rw [Int.zero_add]
          · refine List.pairwise_append.mpr ⟨gp, List.pairwise_singleton _ _, fun a ha b hb => ?_⟩
            rw [List.mem_singleton.mp hb]
            exact gm a ha
          · intro x hx
            rcases List.mem_append.mp hx with hx | hx
            · exact Nat.lt_succ_of_lt (gm x hx)
            · rw [List.mem_singleton.mp hx]
              exact Nat.lt_succ_self i
          · rw [List.length_append]
            exact Nat.succ_le_succ gl2
        · rintro H6 ⟨k6, hg6, hL6, gd, hG6, gp, gm, gl2⟩
          obtain ⟨us6, hu6, au6⟩ := hL6
          refine ⟨E, _, rfl, .inl ⟨SqL.of hG6, fun u hu => ?_⟩⟩
          have s7 := same_new (o := .tup ((iN gd).map V.int)) hu
          have tu : Tp (upd H6 u (.tup ((iN gd).map V.int))) (.ref u) (wordD gd) := tp_word upd_same
          refine ⟨_, rfl, Ga, _, rfl, .inl ⟨SqL.of (s7 _ _ hg6), fun gt hgt => ?_⟩⟩
          have s8 := same_new (o := .tup (gs.map V.str)) hgt
          have tg : Tp (upd (upd H6 u (.tup ((iN gd).map V.int))) gt (.tup (gs.map V.str))) (.ref gt) (.tuple (gs.map .str)) := .tup upd_same (TpAll.map fun z _ => .str z)
          refine ⟨_, rfl, D, _, rfl, .inl ⟨SqL.of (s8 _ _ (s7 _ _ hu6)), fun rt hrt => ?_⟩⟩
          have s9 := same_new (o := .tup us6) hrt
          have tr : Tp (upd (upd (upd H6 u (.tup ((iN gd).map V.int))) gt (.tup (gs.map V.str))) rt (.tup us6)) (.ref rt) (.tuple (rows.map wordD)) := .tup upd_same (au6.mono (Same.tk (Same.trans (Same.trans s7 s8) s9)))
          refine ⟨_, rfl, (by show 3 ≤ sizeLine; decide), fun t ht => ?_⟩
          have s10 := same_new (o := .tup [.ref gt, .ref rt, .ref u]) ht
          refine k ⟨gs, rows, gd⟩ m t _ ⟨by omega, by omega, g3, (by show rows.length = m; omega), rr, each, nd, gp, fun x hx => by have := gm x hx; omega⟩ (k6.same (Same.trans (Same.trans (Same.trans s7 s8) s9) s10)) ?_
          exact .tup upd_same (.cons ((tg.mono (Same.tk s9)).mono (Same.tk s10)) (.cons (tr.mono (Same.tk s10)) (.cons (((tu.mono (Same.tk s8)).mono (Same.tk s9)).mono (Same.tk s10)) .nil)))
end

/-! ### lines behind each other -/
def allT (rs : List Rc) : Str := Txt.join "" (rs.map lineT)
theorem allT_cps (rs : List Rc) : (allT rs).cps.toList = rs.flatMap fun r => (lineT r).cps.toList := by
  unfold allT
  rw [join_cps, List.map_map, List.flatMap_def]
  rfl
theorem str_cps {x y : Str} (h : x.cps.toList = y.cps.toList) : x = y := Str.ext' (Array.ext' h)
theorem cat_list (x y : Str) : (x ++ y).cps.toList = x.cps.toList ++ y.cps.toList := by
  show (x.cps ++ y.cps).toList = _
  rw [Array.toList_append]
theorem allT_one (r : Rc) : allT [r] = lineT r := str_cps (by rw [allT_cps, List.flatMap_cons, List.flatMap_nil, List.append_nil])
theorem allT_push (rs : List Rc) (r : Rc) : allT (rs ++ [r]) = allT rs ++ lineT r := str_cps (by
  rw [cat_list, allT_cps, allT_cps, List.flatMap_append, List.flatMap_cons, List.flatMap_nil, List.append_nil])
theorem allT_len : ∀ rs : List Rc, (∀ r ∈ rs, LnOk r ∧ r.length ≤ 30) → (allT rs).length ≤ 1000 * rs.length
  | [], _ => Nat.le_of_eq (by decide)
  | r :: rs, h => by
    have ih := allT_len rs fun x hx => h x (List.mem_cons_of_mem _ hx)
    have e : (allT (r :: rs)).length = (lineT r).length + (allT rs).length := by
      show (allT (r :: rs)).cps.size = (lineT r).cps.size + (allT rs).cps.size
      rw [← Array.length_toList, ← Array.length_toList, ← Array.length_toList, allT_cps, allT_cps, List.flatMap_cons, List.length_append]
    have a := lineT_len (h r List.mem_cons_self).1
    have b := (h r List.mem_cons_self).2
    rw [e, List.length_cons, Nat.mul_succ]
    omega
def gR (f : Fm) : Rc := .s "groups" :: f.groups.map Pt.s
def sR (row : List Nat) : Rc := .s "state" :: row.map Pt.b
def dR (f : Fm) : Rc := .s "good" :: f.good.map Pt.b
def fR (f : Fm) : List Rc := gR f :: (f.rows.map sR ++ [dR f])
def wR (w : List Nat) : Rc := .s "word" :: w.map Pt.b
theorem num_len : ∀ i, i < 1000 → (strP (.b i)).length ≤ 30 := by decide +kernel
theorem ln_nums {z : Str} {l : List Nat} (hz : z.length ≤ 30) (hl : l.length ≤ 299) (h : ∀ x ∈ l, x < 1000) : LnOk (.s z :: l.map Pt.b) := by
  refine ⟨by rw [List.length_cons, List.length_map]; omega, fun q hq => ?_, fun i hi => ?_⟩
  · rcases List.mem_cons.mp hq with rfl | hq
    · exact hz
    · obtain ⟨x, hx, rfl⟩ := List.mem_map.mp hq
      exact num_len x (h x hx)
  · rcases List.mem_cons.mp hi with e | hi
    · cases e
    · obtain ⟨x, hx, e⟩ := List.mem_map.mp hi
      injection e with e
      rw [← e]
      exact h x hx
theorem ln_strs {z : Str} {l : List Str} (hz : z.length ≤ 30) (hl : l.length ≤ 299) (h : ∀ x ∈ l, x.length ≤ 30) : LnOk (.s z :: l.map Pt.s) := by
  refine ⟨by rw [List.length_cons, List.length_map]; omega, fun q hq => ?_, fun i hi => ?_⟩
  · rcases List.mem_cons.mp hq with rfl | hq
    · exact hz
    · obtain ⟨x, hx, rfl⟩ := List.mem_map.mp hq
      exact h x hx
  · rcases List.mem_cons.mp hi with e | hi
    · cases e
    · obtain ⟨x, hx, e⟩ := List.mem_map.mp hi
      cases e
theorem up_len {m : Nat} : ∀ {l : List Nat}, l.Pairwise (· < ·) → (∀ x ∈ l, x < m) → l.length ≤ m := fun {l} h hm => by
  have nd : l.Nodup := h.imp fun e => Nat.ne_of_lt e
  have key : ∀ (n : Nat) (l : List Nat), l.Pairwise (· < ·) → (∀ x ∈ l, n ≤ x) → (∀ x ∈ l, x < m) → l.length + n ≤ max m n := by
    intro n l
    induction l generalizing n with
    | nil => intro _ _ _; rw [List.length_nil]; omega
    | cons x r ih =>
      intro h1 h2 h3
      rw [List.pairwise_cons] at h1
      have a := ih (x + 1) h1.2 (fun y hy => h1.1 y hy) fun y hy => h3 y (List.mem_cons_of_mem _ hy)
      have b := h2 x List.mem_cons_self
      have c := h3 x List.mem_cons_self
      rw [List.length_cons]
      omega
  have q := key 0 l h (fun x _ => Nat.zero_le x) hm
  omega
theorem f_lines {f : Fm} {m : Nat} (h : F92 f m) : ∀ r ∈ fR f, LnOk r ∧ r.length ≤ 30 := fun r hr => by
  have g3 := h.g3
  have m4 := h.m4
  have l6 : ("groups" : Str).length ≤ 30 ∧ ("state" : Str).length ≤ 30 ∧ ("good" : Str).length ≤ 30 := by decide
  rcases List.mem_cons.mp hr with rfl | hr
  · refine ⟨ln_strs l6.1 (by omega) fun x hx => Nat.le_trans (h.gl x hx).2.2.1 (by decide), ?_⟩
    unfold gR
    rw [List.length_cons, List.length_map]
    omega
  · rcases List.mem_append.mp hr with hr | hr
    · obtain ⟨row, hrow, rfl⟩ := List.mem_map.mp hr
      obtain ⟨a, c⟩ := h.rr row hrow
      refine ⟨ln_nums l6.2.1 (by omega) fun x hx => by have := c x hx; omega, ?_⟩
      unfold sR
      rw [List.length_cons, List.length_map]
      omega
    · rw [List.mem_singleton.mp hr]
      have gl := up_len h.gp h.gm
      refine ⟨ln_nums l6.2.2 (by omega) fun x hx => by have := h.gm x hx; omega, ?_⟩
      unfold dR
      rw [List.length_cons, List.length_map]
      omega
theorem nums_v (l : List Nat) : (iN l).map V.int = (l.map Pt.b).map Pt.v := by
  unfold iN
  rw [List.map_map, List.map_map]
  rfl
theorem strs_v (l : List Str) : l.map V.str = (l.map Pt.s).map Pt.v := by
  rw [List.map_map]
  rfl
def spFText : Sp := fun vs H Q _ => ∃ (v : V) (f : Fm) (m : Nat), vs = [v] ∧ Tp H v f.d ∧ F92 f m ∧ ∀ H', Same H H' → Q (.str (allT (fR f))) H'
theorem sc_ftext : FnScope ["form", "text", "row"] ["form"] (fnScope st_law_form_text) := fnScope_by (by decide +kernel)
theorem Tp.fm_inv {H : Hp} {v : V} {f : Fm} (h : Tp H v f.d) : ∃ (a ga ra : Addr) (rx : List V) (da : Addr), v = .ref a ∧ H a = some (.tup [.ref ga, .ref ra, .ref da]) ∧ H ga = some (.tup (f.groups.map V.str)) ∧ H ra = some (.tup rx) ∧ TpAll H rx (f.rows.map wordD) ∧ H da = some (.tup ((iN f.good).map V.int)) := by
  obtain ⟨a, xs, rfl, h1, h2⟩ := h.tup_inv
  cases h2 with
  | @cons v1 x2 _ _ t1 h2 =>
  cases h2 with
  | @cons v2 x3 _ _ t2 h2 =>
  cases h2 with
  | @cons v3 x4 _ _ t3 h2 =>
  cases h2
  obtain ⟨ga, gx, rfl, g1, g2⟩ := t1.tup_inv
  obtain rfl := tpAll_strs g2
  obtain ⟨ra, rx, rfl, r1, r2⟩ := t2.tup_inv
  obtain ⟨da, rfl, d1⟩ := t3.word_inv
  exact ⟨a, ga, ra, rx, da, rfl, h1, g1, r1, r2, d1⟩
section
variable {P : Program} {w : World} {K : PySem.W.Frag} {mg : Str → Option Value} {base : Heap} {f : Addr} {fd : FuncData}
theorem cal_ftext (F : C8.Def K mg "_law_form_text" st_law_form_text f fd) (b : Binds K fd ["form"] []) (B : BN2 mg) (Cl : Cal P w K mg base 1 "_law_line" spLine []) : Cal P w K mg base 2 "_law_form_text" spFText [] := by
  refine cal0 F b .nil sc_ftext (fun vs H Q E h => ?_) (fun cdv A outer s H vs Q E hr h => ?_)
  · obtain ⟨v, f, m, rfl, _⟩ := h
    rfl
  · obtain ⟨v, f, m, rfl, hv, hf, k⟩ := h
    obtain ⟨a, ga, ra, rx, da, rfl, h1, h2, h3, h4, h5⟩ := hv.fm_inv
    refine ⟨_, pss_cons (ps_set (i := 1) sc_ftext.nd rfl (Or.inl rfl) (pe_c Cl hr (by decide) (by rfl) (pa_cons (pe_op op_cat (pe_lst (pa_cons pe_str pa_nil)) (pe_callTy call_list_of (by rfl) B.list (by decide +kernel) (pa_cons (pe_ix ix_tup (pv 0) pe_int (fun _ _ => rfl)) pa_nil))) pa_nil)))
      (pss_cons (ps_for PassesOwn.never rfl (pi_tup (pe_ix ix_tup (pv 0) pe_int (fun _ _ => rfl))) (pg_name (i := 2) sc_ftext.nd rfl (Or.inl rfl))
        (pss_one (ps_set (i := 1) sc_ftext.nd rfl (Or.inl rfl) (pe_op op_add_str (pv 1) (pe_c Cl hr (by decide) (by rfl) (pa_cons (pe_op op_cat (pe_lst (pa_cons pe_str pa_nil)) (pe_callTy call_list_of (by rfl) B.list (by decide +kernel) (pa_cons (pv 2) pa_nil))) pa_nil))))))
      (pss_one (ps_ret (pe_op op_add_str (pv 1) (pe_c Cl hr (by decide) (by rfl) (pa_cons (pe_op op_cat (pe_lst (pa_cons pe_str pa_nil)) (pe_callTy call_list_of (by rfl) B.list (by decide +kernel) (pa_cons (pe_ix ix_tup (pv 0) pe_int (fun _ _ => rfl)) pa_nil))) pa_nil)))))), ?_⟩
    have fl := f_lines hf
    have g3 := hf.g3
    have rl := hf.rl
    have m4 := hf.m4
    refine ⟨(by show 1 ≤ sizeLine; decide), fun la hla => ⟨_, rfl, a, _, _, _, rfl, rfl, SqT.of (same_new hla _ _ h1), atI_nat (j := 0) rfl, ga, _, rfl, .inr (SqT.of (same_new hla _ _ h2)), fun lb hlb => ?_⟩⟩
    have m0 := fl (gR f) List.mem_cons_self
    have e0 : (V.str "groups" :: f.groups.map V.str) = (gR f).map Pt.v := by unfold gR; rw [strs_v]; rfl
    refine ⟨la, lb, [.str "groups"], f.groups.map V.str, rfl, rfl, (by rw [upd_ne (ne_of_none upd_same hlb), upd_same]), upd_same, Nat.le_trans (show [V.str "groups"].length + (f.groups.map V.str).length ≤ 100 by rw [List.length_singleton]; have q := congrArg List.length e0; have q3 := List.length_map (as := gR f) Pt.v; rw [List.length_cons, q3] at q; have q2 := m0.2; omega) (by decide), fun lc hlc => ⟨lc, gR f, rfl, (by rw [upd_same]; exact congrArg some (congrArg HO.lst e0)), (m0).1, fun H1 s0 => ?_⟩⟩
    have s1 := Same.trans (Same.trans (Same.trans (same_new (o := .lst [.str "groups"]) hla) (same_new (o := .lst (f.groups.map V.str)) hlb)) (same_new (o := .lst ([.str "groups"] ++ f.groups.map V.str)) hlc)) s0
    refine ⟨_, rfl, a, _, _, _, rfl, rfl, SqT.of (s1 _ _ h1), atI_nat (j := 1) rfl, ra, rfl, ⟨_, SqT.of (s1 _ _ h3)⟩, ?_⟩
    have lrx : rx.length = f.rows.length := by rw [h4.len, List.length_map]
    have tk_ : ∀ i, (∀ r ∈ gR f :: (f.rows.take i).map sR, LnOk r ∧ r.length ≤ 30) := fun i r hr => by
      refine fl r ?_
      rcases List.mem_cons.mp hr with rfl | hr
      · exact List.mem_cons_self
      · obtain ⟨row, hrow, rfl⟩ := List.mem_map.mp hr
        exact List.mem_cons_of_mem _ (List.mem_append_left _ (List.mem_map_of_mem (List.mem_of_mem_take hrow)))
    have ln : ∀ i, (allT (gR f :: (f.rows.take i).map sR)).length ≤ 5000 := fun i => by
      have q := allT_len _ (tk_ i)
      rw [List.length_cons, List.length_map, List.length_take] at q
      omega
    refine for_tup (K := K) (a := ra) (xs := rx) (fun i σ H' => (∃ v2 : Option V, σ = [some (.ref a), some (.str (allT (gR f :: (f.rows.take i).map sR))), v2]) ∧ Same H H') ⟨⟨none, by rw [List.take_zero, List.map_nil, allT_one]; rfl⟩, s1⟩ (fun i σ H' _ h => SqT.of (h.2 _ _ h3)) ?_ ?_
    · rintro i x σ H2 hi ⟨⟨v2, rfl⟩, s2⟩
      have ilt : i < f.rows.length := by
        have q := (List.getElem?_eq_some_iff.mp hi).1
        omega
      have hg := List.getElem?_eq_getElem ilt
      obtain ⟨x', hx', tx⟩ := h4.at hg
      rw [hi] at hx'
      cases hx'
      obtain ⟨xa, rfl, hxa⟩ := tx.word_inv
      have mem : sR f.rows[i] ∈ fR f := List.mem_cons_of_mem _ (List.mem_append_left _ (List.mem_map_of_mem (List.getElem_mem ilt)))
      have l2 := ln (i + 1)
      refine ⟨_, rfl, (by show 1 ≤ sizeLine; decide), fun la hla => ⟨_, rfl, xa, _, rfl, .inr (SqT.of (same_new hla _ _ (s2 _ _ hxa))), fun lb hlb => ?_⟩⟩
      have m0 := fl _ mem
      have e0 : (V.str "state" :: (iN f.rows[i]).map V.int) = (sR f.rows[i]).map Pt.v := by unfold sR; rw [nums_v]; rfl
      refine ⟨la, lb, [.str "state"], (iN f.rows[i]).map V.int, rfl, rfl, (by rw [upd_ne (ne_of_none upd_same hlb), upd_same]), upd_same, Nat.le_trans (show [V.str "state"].length + ((iN f.rows[i]).map V.int).length ≤ 100 by rw [List.length_singleton]; have q := congrArg List.length e0; have q3 := List.length_map (as := sR f.rows[i]) Pt.v; rw [List.length_cons, q3] at q; have q2 := m0.2; omega) (by decide), fun lc hlc => ⟨lc, sR f.rows[i], rfl, (by rw [upd_same]; exact congrArg some (congrArg HO.lst e0)), (m0).1, fun H3 s0 => ?_⟩⟩
      have s3 := Same.trans (Same.trans (Same.trans (same_new (o := .lst [.str "state"]) hla) (same_new (o := .lst ((iN f.rows[i]).map V.int)) hlb)) (same_new (o := .lst ([.str "state"] ++ (iN f.rows[i]).map V.int)) hlc)) s0
      have more : allT (gR f :: (f.rows.take (i + 1)).map sR) = allT (gR f :: (f.rows.take i).map sR) ++ lineT (sR f.rows[i]) := by
        rw [List.take_add_one, hg, List.map_append]
        exact allT_push (gR f :: (f.rows.take i).map sR) _
      rw [more, Str.length_append] at l2
      refine ⟨_, _, rfl, rfl, Nat.le_trans l2 (by decide), ⟨some (.ref xa), by rw [more]; rfl⟩, Same.trans s2 s3⟩
    · rintro σ H2 ⟨⟨v2, rfl⟩, s2⟩
      have mem : dR f ∈ fR f := List.mem_cons_of_mem _ (List.mem_append_right _ (List.mem_singleton.mpr rfl))
      refine ⟨_, rfl, (by show 1 ≤ sizeLine; decide), fun la hla => ⟨_, rfl, a, _, _, _, rfl, rfl, SqT.of (same_new hla _ _ (s2 _ _ h1)), atI_nat (j := 2) rfl, da, _, rfl, .inr (SqT.of (same_new hla _ _ (s2 _ _ h5))), fun lb hlb => ?_⟩⟩
      have m0 := fl _ mem
      have e0 : (V.str "good" :: (iN f.good).map V.int) = (dR f).map Pt.v := by unfold dR; rw [nums_v]; rfl
      refine ⟨la, lb, [.str "good"], (iN f.good).map V.int, rfl, rfl, (by rw [upd_ne (ne_of_none upd_same hlb), upd_same]), upd_same, Nat.le_trans (show [V.str "good"].length + ((iN f.good).map V.int).length ≤ 100 by rw [List.length_singleton]; have q := congrArg List.length e0; have q3 := List.length_map (as := dR f) Pt.v; rw [List.length_cons, q3] at q; have q2 := m0.2; omega) (by decide), fun lc hlc => ⟨lc, dR f, rfl, (by rw [upd_same]; exact congrArg some (congrArg HO.lst e0)), (m0).1, fun H3 s0 => ?_⟩⟩
      have s3 := Same.trans (Same.trans (Same.trans (same_new (o := .lst [.str "good"]) hla) (same_new (o := .lst ((iN f.good).map V.int)) hlb)) (same_new (o := .lst ([.str "good"] ++ (iN f.good).map V.int)) hlc)) s0
      have all : allT (fR f) = allT (gR f :: (f.rows.take rx.length).map sR) ++ lineT (dR f) := by
        rw [lrx, List.take_length]
        exact allT_push (gR f :: f.rows.map sR) _
      have l1 := ln rx.length
      have l2 := lineT_len (fl _ mem).1
      have l3 := (fl _ mem).2
      refine ⟨_, _, rfl, rfl, Nat.le_trans (show _ ≤ 10000 by omega) (by decide), ?_⟩
      rw [← all]
      exact k _ (Same.trans s2 s3)
end

/-! ### the program's lines -/
inductive Lns (H : Hp) : List V → List Rc → Prop
  | nil : Lns H [] []
  | cons {a : Addr} {xs : List V} {r : Rc} {rs : List Rc} : H a = some (.lst (r.map Pt.v)) → Lns H xs rs → Lns H (.ref a :: xs) (r :: rs)
theorem Lns.mono {H H' : Hp} (s : Same H H') : ∀ {xs rs}, Lns H xs rs → Lns H' xs rs
  | _, _, .nil => .nil
  | _, _, .cons h t => .cons (s _ _ h) (t.mono s)
theorem Lns.len {H : Hp} : ∀ {xs rs}, Lns H xs rs → xs.length = rs.length
  | _, _, .nil => rfl
  | _, _, .cons _ t => congrArg (· + 1) t.len
theorem Lns.at {H : Hp} : ∀ {xs rs} {i : Nat} {x : V}, Lns H xs rs → xs[i]? = some x → ∃ a r, rs[i]? = some r ∧ x = .ref a ∧ H a = some (.lst (r.map Pt.v))
  | _, _, _, _, .nil, e => by cases e
  | _, _, 0, _, .cons h _, e => ⟨_, _, rfl, (Option.some.inj e).symm, h⟩
  | _, _, i + 1, _, .cons _ t, e => t.at (i := i) e
theorem Lns.app {H : Hp} : ∀ {xs rs ys qs}, Lns H xs rs → Lns H ys qs → Lns H (xs ++ ys) (rs ++ qs)
  | _, _, _, _, .nil, h => h
  | _, _, _, _, .cons a t, h => .cons a (t.app h)
theorem Lns.put {H : Hp} {D : Addr} {o : HO} : ∀ {xs rs}, Lns H xs rs → (∀ z ∈ xs, z ≠ V.ref D) → Lns (upd H D o) xs rs
  | _, _, .nil, _ => .nil
  | _, _, .cons h t, n => .cons (by rw [upd_ne fun e => n _ List.mem_cons_self (by rw [e])]; exact h) (t.put fun z hz => n z (List.mem_cons_of_mem _ hz))
def rJn (K : PySem.W.Frag) : V → List V → Hp → VK → Prop := fun x xs H Q => ∃ a p, ∃ ys : List Str, x = .str a ∧ xs = [.ref p] ∧ (SqL K H p (ys.map V.str) ∨ SqT K H p (ys.map V.str)) ∧ (ys.map (·.length)).sum + ys.length * a.length ≤ 16777216 ∧ Q (.str (Txt.join a ys)) H
theorem pe_joinK {X : Cx} (K : PySem.W.Frag) {o e : Expr} {to te : TE} {apos pos : Pos} (ho : PE X o to) (he : PE X e te) (hK : X.K = K := by rfl) (hs : starEach [e] X.env = [(false, eval e X.env)] := by rfl) (hb : attributeBase o "join" X.env (eval o X.env) = eval o X.env := by rfl) (hl : (apos.endLine == pos.line) = true := by rfl) : PE X (.Call (.Attribute o "join" apos) [e] [] pos) (tM1 (rJn K) to te) := by
  subst hK
  exact pe_join ho he hs hb hl
def spWritten : Sp := fun vs H Q _ => ∃ (l : Addr) (xs : List V) (rs : List Rc), vs = [.ref l] ∧ H l = some (.lst xs) ∧ Lns H xs rs ∧ rs.length ≤ 1000 ∧ (∀ r ∈ rs, LnOk r ∧ r.length ≤ 30) ∧ ∀ H', Same H H' → Q (.str (allT rs)) H'
theorem sc_written : FnScope ["lines", "part", "line"] ["lines"] (fnScope st_written) := fnScope_by (by decide +kernel)
def blkW : Scope := { kind := .function, names := [(".0", .local), ("line", .local)], isGenerator := false, isCoroutine := false }
section
variable {P : Program} {w : World} {K : PySem.W.Frag} {mg : Str → Option Value} {base : Heap} {f : Addr} {fd : FuncData}
theorem cal_written (F : C8.Def K mg "_written" st_written f fd) (b : Binds K fd ["lines"] []) (B : BN2 mg) : Cal P w K mg base 1 "_written" spWritten [] := by
  refine cal0 F b .nil sc_written (fun vs H Q E h => ?_) (fun cdv A outer s H vs Q E hr h => ?_)
  · obtain ⟨l, xs, rs, rfl, _⟩ := h
    rfl
  · obtain ⟨l, xs, rs, rfl, hl, hx, many, ok, k⟩ := h
    refine ⟨_, pss_one (ps_ret (pe_join pe_str (pe_lc (own := [("line", 2)]) (g := gName 2) (tt := tYes) (by rfl) sc_written.nd (pi_list (pv 0)) (blkOk_by (own := [("line", 2)]) (N := ["lines", "part", "line"]) (sc := fnScope st_written) (by decide +kernel))
      (fun _ _ _ _ _ => pg_name (i := 2) sc_written.nd rfl (Or.inl rfl)) (fun _ _ _ _ _ => pts_nil)
      (fun _ _ _ _ _ => pe_op op_add_str (pe_joinK K pe_str (pe_lc (own := [("part", 1)]) (wi := iList K (tVar 2)) (g := gName 1) (tt := tYes) (by rfl) sc_written.nd (pi_list (pv 2)) (blkOk_by (own := [("part", 1)]) (N := ["lines", "part", "line"]) (sc := blkW) (by decide +kernel))
        (fun _ _ _ _ _ => pg_name (i := 1) sc_written.nd rfl (Or.inl rfl)) (fun _ _ _ _ _ => pts_nil) (fun _ _ _ _ _ => pe_callTy call_strP (by rfl) B.str (by decide +kernel) (pa_cons (pv 1) pa_nil)))) pe_str)))), ?_⟩
    refine ⟨⟨_, rfl⟩, _, rfl, l, rfl, ⟨_, SqL.of hl⟩, fun D hD => ?_⟩
    refine lc_list (K := K) (a := l) (xs := xs) (fun i H' => Same H H' ∧ H' D = some (.lst (((rs.take i).map lineT).map V.str))) ⟨same_new hD, upd_same⟩ (fun i H' _ h => SqL.of (h.1 _ _ hl)) ?_ ?_
    · rintro i x H1 hi ⟨s1, hL⟩
      obtain ⟨a, r, hr0, rfl, ha⟩ := hx.at hi
      obtain ⟨lk, l30⟩ := ok r (List.mem_of_getElem? hr0)
      refine ⟨rfl, ?_⟩
      refine ⟨⟨_, rfl⟩, _, rfl, a, rfl, ⟨_, SqL.of (s1 _ _ ha)⟩, fun E hE => ?_⟩
      refine lc_list (K := K) (a := a) (xs := r.map Pt.v) (fun j H' => Same H H' ∧ H' D = some (.lst (((rs.take i).map lineT).map V.str)) ∧ H' E = some (.lst (((r.take j).map strP).map V.str))) ⟨Same.trans s1 (same_new hE), same_new hE _ _ hL, upd_same⟩ (fun j H' _ h => SqL.of (h.1 _ _ ha)) ?_ ?_
      · rintro j y H2 hj ⟨s2, hL2, hE2⟩
        have hE0 : H E = none := Same.free s1 hE
        obtain ⟨q, hq, rfl⟩ : ∃ q, r[j]? = some q ∧ y = Pt.v q := by
          rw [List.getElem?_map] at hj
          cases e : r[j]? with
          | none =>
            rw [e] at hj
            cases hj
          | some z =>
            rw [e] at hj
            exact ⟨z, rfl, (Option.some.inj hj).symm⟩
        have mem := List.mem_of_getElem? hq
        refine ⟨rfl, _, rfl, q, rfl, fun n e => lk.num n (e ▸ mem), _, hE2, ?_, Same.put s2 hE0, ?_, ?_⟩
        · rw [List.length_map, List.length_map, List.length_take]
          exact low10 (by omega)
        · rw [upd_ne (ne_of_none hL hE)]
          exact hL2
        · rw [upd_same, List.take_add_one, hq, List.map_append, List.map_append]
          rfl
      · rintro H2 ⟨s2, hL2, hE2⟩
        rw [List.length_map, List.take_length] at hE2
        have a1 := ln_len lk
        have e : (" " : Str).length = 1 := by decide
        have b1 := tjoin_le (r.map strP)
        rw [List.length_map] at b1
        have e2 : ("\n" : Str).length = 1 := by decide
        refine ⟨_, E, r.map strP, rfl, rfl, .inl (SqL.of hE2), ?_, _, _, rfl, rfl, ?_, _, hL2, ?_, Same.put s2 hD, ?_⟩
        · rw [e, List.length_map]
          exact Nat.le_trans (show _ ≤ 10000 by omega) (by decide)
        · rw [e2]
          exact Nat.le_trans (show _ ≤ 10000 by omega) (by decide)
        · rw [List.length_map, List.length_map, List.length_take]
          exact low10 (by omega)
        · rw [upd_same, List.take_add_one, hr0, List.map_append, List.map_append]
          rfl
    · rintro H1 ⟨s1, hL⟩
      rw [hx.len, List.take_length] at hL
      have a := allT_len rs ok
      refine ⟨_, D, rs.map lineT, rfl, rfl, .inl (SqL.of hL), ?_, k _ s1⟩
      rw [← join_len]
      have e : (("" : Str)).length = 0 := by decide
      rw [e, Nat.mul_zero, Nat.add_zero]
      exact Nat.le_trans (show (allT rs).length ≤ 1000000 by omega) (by decide)
end

/-! ### words and forms, written -/
def spFWords : Sp := fun vs H Q _ => ∃ (v : V) (ws : List (List Nat)), vs = [v] ∧ Tp H v (.tuple (ws.map wordD)) ∧ ws.length ≤ 1000 ∧ (∀ w ∈ ws, w.length ≤ 20 ∧ ∀ x ∈ w, x < 1000) ∧ ∀ H', Same H H' → Q (.str (allT (ws.map wR))) H'
theorem sc_fwords : FnScope ["words", "word"] ["words"] (fnScope st_format_words_) := fnScope_by (by decide +kernel)
def spFForm : Sp := fun vs H Q _ => ∃ (v : V) (f : Fm) (m : Nat), vs = [v] ∧ Tp H v f.d ∧ F92 f m ∧ ∀ H', Same H H' → Q (.str (allT (fR f))) H'
theorem sc_fform : FnScope ["form", "groups", "rows", "good", "row"] ["form"] (fnScope st_format_form_) := fnScope_by (by decide +kernel)
theorem w_line {w : List Nat} (h : w.length ≤ 20 ∧ ∀ x ∈ w, x < 1000) : LnOk (wR w) ∧ (wR w).length ≤ 30 := by
  have l4 : ("word" : Str).length ≤ 30 := by decide
  refine ⟨ln_nums l4 (by omega) h.2, ?_⟩
  unfold wR
  rw [List.length_cons, List.length_map]
  omega
section
variable {P : Program} {w : World} {K : PySem.W.Frag} {mg : Str → Option Value} {base : Heap} {f : Addr} {fd : FuncData}
theorem cal_fwords (F : C8.Def K mg "format_words" st_format_words_ f fd) (b : Binds K fd ["words"] []) (Cw : Cal P w K mg base 1 "_written" spWritten []) : Cal P w K mg base 2 "format_words" spFWords [] := by
  refine cal0 F b .nil sc_fwords (fun vs H Q E h => ?_) (fun cdv A outer s H vs Q E hr h => ?_)
  · obtain ⟨v, ws, rfl, _⟩ := h
    rfl
  · obtain ⟨v, ws, rfl, hv, many, ok, k⟩ := h
    obtain ⟨a, xs, rfl, h1, h2⟩ := hv.tup_inv
    refine ⟨_, pss_one (ps_ret (pe_c Cw hr (by decide) (by rfl) (pa_cons (pe_lc (own := [("word", 1)]) (g := gName 1) (tt := tYes) (te := tLst (tCons (tC (.str "word")) (StX.tStar K (tVar 1) tNil))) (by rfl) sc_fwords.nd (pi_tup (pv 0)) (blkOk_by (own := [("word", 1)]) (N := ["words", "word"]) (sc := fnScope st_format_words_) (by decide +kernel))
      (fun _ _ _ _ _ => pg_name (i := 1) sc_fwords.nd rfl (Or.inl rfl)) (fun _ _ _ _ _ => pts_nil) (fun _ _ _ _ _ => pe_lst (pa_cons pe_str (StX.pa_star (pv 1) pa_nil)))) pa_nil))), ?_⟩
    refine ⟨_, rfl, a, rfl, ⟨_, SqT.of h1⟩, fun D hD => ?_⟩
    have lx : xs.length = ws.length := by rw [h2.len, List.length_map]
    refine lc_tup (K := K) (a := a) (xs := xs) (fun i H' => Same H H' ∧ ∃ ys, H' D = some (.lst ys) ∧ Lns H' ys ((ws.take i).map wR) ∧ ∀ z ∈ ys, z ≠ V.ref D) ⟨same_new hD, [], upd_same, .nil, fun z hz => (by cases hz)⟩ (fun i H' _ h => SqT.of (h.1 _ _ h1)) ?_ ?_
    · rintro i x H1 hi ⟨s1, ys, hL, hy, ny⟩
      have ilt : i < ws.length := by
        have q := (List.getElem?_eq_some_iff.mp hi).1
        omega
      have hg := List.getElem?_eq_getElem ilt
      obtain ⟨x', hx', tx⟩ := h2.at hg
      rw [hi] at hx'
      cases hx'
      obtain ⟨xa, rfl, hxa⟩ := tx.word_inv
      have o := ok _ (List.getElem_mem ilt)
      refine ⟨rfl, _, rfl, xa, _, rfl, .inl (SqT.of (s1 _ _ hxa)), ?_, fun q hq => ?_⟩
      · have e := iN_len ws[i]
        exact Nat.le_trans (show (V.str "word" :: ((iN ws[i]).map V.int ++ [])).length ≤ 100 by rw [List.length_cons, List.append_nil, e]; omega) (by decide)
      have sq := same_new (o := .lst (V.str "word" :: ((iN ws[i]).map V.int ++ []))) hq
      have nq : V.ref q ≠ V.ref D := fun e => by
        injection e with e
        exact ne_of_none hL hq e.symm
      have ny2 : ∀ z ∈ ys ++ [V.ref q], z ≠ V.ref D := fun z hz => by
        rcases List.mem_append.mp hz with hz | hz
        · exact ny z hz
        · rw [List.mem_singleton.mp hz]
          exact nq
      refine ⟨ys, sq _ _ hL, ?_, Same.put (Same.trans s1 sq) hD, ys ++ [.ref q], upd_same, ?_, ny2⟩
      · have e := hy.len
        rw [e, List.length_map, List.length_take]
        exact low10 (by omega)
      · rw [List.take_add_one, hg, List.map_append]
        refine Lns.put ((hy.mono sq).app (.cons ?_ .nil)) ny2
        rw [upd_same]
        unfold wR
        rw [nums_v, List.append_nil]
        rfl
    · rintro H1 ⟨s1, ys, hL, hy, ny⟩
      rw [lx, List.take_length] at hy
      exact ⟨D, ys, _, rfl, hL, hy, by rw [List.length_map]; exact many, fun r hr => by obtain ⟨w, hw, rfl⟩ := List.mem_map.mp hr; exact w_line (ok w hw), fun H' s' => k _ (Same.trans s1 s')⟩
theorem cal_fform (F : C8.Def K mg "format_form" st_format_form_ f fd) (b : Binds K fd ["form"] []) (Cw : Cal P w K mg base 1 "_written" spWritten []) : Cal P w K mg base 2 "format_form" spFForm [] := by
  refine cal0 F b .nil sc_fform (fun vs H Q E h => ?_) (fun cdv A outer s H vs Q E hr h => ?_)
  · obtain ⟨v, f, m, rfl, _⟩ := h
    rfl
  · obtain ⟨v, f, m, rfl, hv, hf, k⟩ := h
    obtain ⟨a, ga, ra, rx, da, rfl, h1, h2, h3, h4, h5⟩ := hv.fm_inv
    refine ⟨_, pss_cons (ps_asg (pv 0) (pg_tup rfl (pgs_cons (pg_name (i := 1) sc_fform.nd rfl (Or.inl rfl)) (pgs_cons (pg_name (i := 2) sc_fform.nd rfl (Or.inl rfl)) (pgs_cons (pg_name (i := 3) sc_fform.nd rfl (Or.inl rfl)) pgs_nil)))))
      (pss_one (ps_ret (pe_c Cw hr (by decide) (by rfl) (pa_cons (pe_op op_cat (pe_op op_cat (pe_lst (pa_cons (pe_lst (pa_cons pe_str (StX.pa_star (pv 1) pa_nil))) pa_nil))
        (pe_lc (own := [("row", 4)]) (g := gName 4) (tt := tYes) (te := tLst (tCons (tC (.str "state")) (StX.tStar K (tVar 4) tNil))) (by rfl) sc_fform.nd (pi_tup (pv 2)) (blkOk_by (own := [("row", 4)]) (N := ["form", "groups", "rows", "good", "row"]) (sc := fnScope st_format_form_) (by decide +kernel))
          (fun _ _ _ _ _ => pg_name (i := 4) sc_fform.nd rfl (Or.inl rfl)) (fun _ _ _ _ _ => pts_nil) (fun _ _ _ _ _ => pe_lst (pa_cons pe_str (StX.pa_star (pv 4) pa_nil)))))
        (pe_lst (pa_cons (pe_lst (pa_cons pe_str (StX.pa_star (pv 3) pa_nil))) pa_nil))) pa_nil)))), ?_⟩
    have fl := f_lines hf
    have g3 := hf.g3
    have rl := hf.rl
    have m4 := hf.m4
    have dl := up_len hf.gp hf.gm
    have lgs : (f.groups.map V.str).length = f.groups.length := List.length_map ..
    refine ⟨_, rfl, a, _, rfl, SqT.of h1, rfl, _, _, rfl, _, _, rfl, _, _, rfl, rfl, ?_⟩
    refine ⟨_, rfl, ga, _, rfl, .inl (SqT.of h2), Nat.le_trans (show (V.str "groups" :: (f.groups.map V.str ++ [])).length ≤ 100 by rw [List.length_cons, List.append_nil, lgs]; omega) (by decide), fun q1 hq1 => ⟨(by show 1 ≤ sizeLine; decide), fun q2 hq2 => ?_⟩⟩
    have s1 := same_new (o := .lst (V.str "groups" :: (f.groups.map V.str ++ []))) hq1
    have s2 := Same.trans s1 (same_new (o := .lst [.ref q1]) hq2)
    have e1 : upd (upd H q1 (.lst (V.str "groups" :: (f.groups.map V.str ++ [])))) q2 (.lst [.ref q1]) q1 = some (.lst ((gR f).map Pt.v)) := by
      rw [upd_ne (ne_of_none upd_same hq2), upd_same, List.append_nil]
      unfold gR
      rw [strs_v]
      rfl
    have e2 : upd (upd H q1 (.lst (V.str "groups" :: (f.groups.map V.str ++ [])))) q2 (.lst [.ref q1]) q2 = some (.lst [.ref q1]) := upd_same
    generalize upd (upd H q1 (.lst (V.str "groups" :: (f.groups.map V.str ++ [])))) q2 (.lst [.ref q1]) = H2 at s2 e1 e2 ⊢
    refine ⟨_, rfl, ra, rfl, ⟨_, SqT.of (s2 _ _ h3)⟩, fun D hD => ?_⟩
    have lx : rx.length = f.rows.length := by rw [h4.len, List.length_map]
    refine lc_tup (K := K) (a := ra) (xs := rx) (fun i H' => Same H2 H' ∧ ∃ ys, H' D = some (.lst ys) ∧ Lns H' ys ((f.rows.take i).map sR) ∧ ∀ z ∈ ys, z ≠ V.ref D) ⟨same_new hD, [], upd_same, .nil, fun z hz => (by cases hz)⟩ (fun i H' _ h => SqT.of (h.1 _ _ (s2 _ _ h3))) ?_ ?_
    · rintro i x H3 hi ⟨s3, ys, hL, hy, ny⟩
      have ilt : i < f.rows.length := by
        have q := (List.getElem?_eq_some_iff.mp hi).1
        omega
      have hg := List.getElem?_eq_getElem ilt
      obtain ⟨x', hx', tx⟩ := h4.at hg
      rw [hi] at hx'
      cases hx'
      obtain ⟨xa, rfl, hxa⟩ := tx.word_inv
      have o := (hf.rr _ (List.getElem_mem ilt)).1
      refine ⟨rfl, _, rfl, xa, _, rfl, .inl (SqT.of (s3 _ _ (s2 _ _ hxa))), ?_, fun q hq => ?_⟩
      · have e := iN_len f.rows[i]
        exact Nat.le_trans (show (V.str "state" :: ((iN f.rows[i]).map V.int ++ [])).length ≤ 100 by rw [List.length_cons, List.append_nil, e]; omega) (by decide)
      have sq := same_new (o := .lst (V.str "state" :: ((iN f.rows[i]).map V.int ++ []))) hq
      have nq : V.ref q ≠ V.ref D := fun e => by
        injection e with e
        exact ne_of_none hL hq e.symm
      have ny2 : ∀ z ∈ ys ++ [V.ref q], z ≠ V.ref D := fun z hz => by
        rcases List.mem_append.mp hz with hz | hz
        · exact ny z hz
        · rw [List.mem_singleton.mp hz]
          exact nq
      refine ⟨ys, sq _ _ hL, ?_, Same.put (Same.trans s3 sq) hD, ys ++ [.ref q], upd_same, ?_, ny2⟩
      · have e := hy.len
        rw [e, List.length_map, List.length_take]
        exact low10 (by omega)
      · rw [List.take_add_one, hg, List.map_append]
        refine Lns.put ((hy.mono sq).app (.cons ?_ .nil)) ny2
        rw [upd_same]
        unfold sR
        rw [nums_v, List.append_nil]
        rfl
    · rintro H3 ⟨s3, ys, hL, hy, ny⟩
      rw [lx, List.take_length] at hy
      have ly : ys.length = f.rows.length := by rw [hy.len, List.length_map]
      refine ⟨q2, D, _, _, rfl, rfl, s3 _ _ e2, hL, Nat.le_trans (show [V.ref q1].length + ys.length ≤ 100 by rw [List.length_singleton]; omega) (by decide), fun q3 hq3 => ?_⟩
      have s4 := same_new (o := .lst ([V.ref q1] ++ ys)) hq3
      have hda := s4 _ _ (s3 _ _ (s2 _ _ h5))
      have e := iN_len f.good
      refine ⟨_, rfl, da, _, rfl, .inl (SqT.of hda), Nat.le_trans (show (V.str "good" :: ((iN f.good).map V.int ++ [])).length ≤ 100 by rw [List.length_cons, List.append_nil, e]; omega) (by decide), fun q4 hq4 => ⟨(by show 1 ≤ sizeLine; decide), fun q5 hq5 => ?_⟩⟩
      have s5 := same_new (o := .lst (V.str "good" :: ((iN f.good).map V.int ++ []))) hq4
      have s6 := same_new (o := .lst [V.ref q4]) hq5
      refine ⟨q3, q5, _, _, rfl, rfl, s6 _ _ (s5 _ _ upd_same), upd_same, Nat.le_trans (show ([V.ref q1] ++ ys).length + [V.ref q4].length ≤ 100 by rw [List.length_append, List.length_singleton, List.length_singleton]; omega) (by decide), fun q6 hq6 => ?_⟩
      have s7 := same_new (o := .lst ([V.ref q1] ++ ys ++ [V.ref q4])) hq6
      have s47 := Same.trans (Same.trans (Same.trans s4 s5) s6) s7
      refine ⟨q6, _, fR f, rfl, upd_same, ?_, ?_, fl, fun H' s' => k _ (Same.trans (Same.trans (Same.trans s2 s3) s47) s')⟩
      · have l1 : Lns H3 ([V.ref q1] ++ ys) ([gR f] ++ f.rows.map sR) := (Lns.cons (s3 _ _ e1) .nil).app hy
        refine (l1.mono s47).app (.cons (s7 _ _ (s6 _ _ ?_)) .nil)
        rw [upd_same]
        unfold dR
        rw [nums_v, List.append_nil]
        rfl
      · show (gR f :: (f.rows.map sR ++ [dR f])).length ≤ 1000
        rw [List.length_cons, List.length_append, List.length_map, List.length_singleton]
        omega
end

/-! ### lines and parts, read again -/
def lnT (r : Rc) : Str := Txt.join " " (r.map strP)
def PtOk (q : Pt) : Prop := ∀ c ∈ (strP q).cps.toList, c ≠ 10 ∧ c ≠ 32
theorem nl_is : ("\n" : Str) = ⟨#[10]⟩ := by decide +kernel
theorem sp_is : (" " : Str) = ⟨#[32]⟩ := by decide +kernel
theorem num_chars : ∀ i, i < 1000 → ∀ c ∈ (strP (.b i)).cps.toList, 48 ≤ c ∧ c ≤ 57 := by decide +kernel
theorem pt_num {i : Nat} (h : i < 1000) : PtOk (.b i) := fun c hc => by
  have := num_chars i h c hc
  omega
theorem pt_low {z : Str} (h : ∀ c ∈ z.cps.toList, 97 ≤ c ∧ c ≤ 122) : PtOk (.s z) := fun c hc => by
  have := h c hc
  omega
theorem jl_chars {c : Nat} : ∀ (l : List (List Nat)), ∀ x ∈ jl c l, x = c ∨ ∃ y ∈ l, x ∈ y
  | [], x, h => by cases h
  | [y], x, h => .inr ⟨y, List.mem_cons_self, h⟩
  | y :: z :: r, x, h => by
    rcases List.mem_append.mp (show x ∈ y ++ c :: jl c (z :: r) from h) with h | h
    · exact .inr ⟨y, List.mem_cons_self, h⟩
    · rcases List.mem_cons.mp h with h | h
      · exact .inl h
      · rcases jl_chars (z :: r) x h with h | ⟨w, hw, hx⟩
        · exact .inl h
        · exact .inr ⟨w, List.mem_cons_of_mem _ hw, hx⟩
theorem lnT_chars {r : Rc} (h : ∀ q ∈ r, PtOk q) : 10 ∉ (lnT r).cps.toList := fun hx => by
  unfold lnT at hx
  rw [tjoin_eq, sp_is, join_jl] at hx
  rcases jl_chars _ 10 hx with e | ⟨y, hy, hx⟩
  · exact absurd e (by decide)
  · obtain ⟨z, hz, rfl⟩ := List.mem_map.mp hy
    obtain ⟨q, hq, rfl⟩ := List.mem_map.mp hz
    exact (h q hq 10 hx).1 rfl
theorem parts_split {r : Rc} (hn : r ≠ []) (h : ∀ q ∈ r, PtOk q) : Txt.split (lnT r) " " = r.map strP := by
  unfold lnT
  rw [tjoin_eq, sp_is]
  refine split_join 32 (fun e => hn (List.map_eq_nil_iff.mp e)) fun z hz hc => ?_
  obtain ⟨q, hq, rfl⟩ := List.mem_map.mp hz
  exact (h q hq 32 hc).2 rfl
theorem jl_end (c : Nat) : ∀ l : List (List Nat), jl c (l ++ [[]]) = l.flatMap fun x => x ++ [c]
  | [] => rfl
  | [x] => by
    show x ++ c :: [] = (x ++ [c]) ++ []
    rw [List.append_nil]
  | x :: y :: r => by
    have ih := jl_end c (y :: r)
    show x ++ c :: jl c ((y :: r) ++ [[]]) = (x ++ [c]) ++ (y :: r).flatMap _
    rw [ih, List.append_assoc]
    rfl
theorem lines_split {rs : List Rc} (h : ∀ r ∈ rs, ∀ q ∈ r, PtOk q) : Txt.split (allT rs) "\n" = rs.map lnT ++ [("" : Str)] := by
  have e : allT rs = Str.join ⟨#[10]⟩ (rs.map lnT ++ [("" : Str)]) := by
    refine str_cps ?_
    rw [join_jl, allT_cps, List.map_append]
    show _ = jl 10 ((rs.map lnT).map (fun z => z.cps.toList) ++ [[]])
    rw [jl_end, List.map_map, List.flatMap_map]
    refine congrArg (fun g => rs.flatMap g) (funext fun r => ?_)
    show (lnT r ++ "\n").cps.toList = (lnT r).cps.toList ++ [10]
    rw [cat_list, nl_is]
  rw [e, nl_is]
  refine split_join 10 (by simp) fun z hz => ?_
  rcases List.mem_append.mp hz with hz | hz
  · obtain ⟨r, hr, rfl⟩ := List.mem_map.mp hz
    exact lnT_chars (h r hr)
  · rw [List.mem_singleton.mp hz]
    intro q
    have q' : 10 ∈ ("" : Str).cps.toList := q
    cases q'
theorem w_pts {w : List Nat} (h : ∀ x ∈ w, x < 1000) : ∀ q ∈ wR w, PtOk q := fun q hq => by
  rcases List.mem_cons.mp hq with rfl | hq
  · exact pt_low (by decide +kernel)
  · obtain ⟨x, hx, rfl⟩ := List.mem_map.mp hq
    exact pt_num (h x hx)
theorem f_pts {f : Fm} {m : Nat} (h : F92 f m) : ∀ r ∈ fR f, ∀ q ∈ r, PtOk q := fun r hr q hq => by
  have m4 := h.m4
  rcases List.mem_cons.mp hr with rfl | hr
  · rcases List.mem_cons.mp hq with rfl | hq
    · exact pt_low (by decide +kernel)
    · obtain ⟨z, hz, rfl⟩ := List.mem_map.mp hq
      exact pt_low (h.gl z hz).1
  · rcases List.mem_append.mp hr with hr | hr
    · obtain ⟨row, hrow, rfl⟩ := List.mem_map.mp hr
      rcases List.mem_cons.mp hq with rfl | hq
      · exact pt_low (by decide +kernel)
      · obtain ⟨x, hx, rfl⟩ := List.mem_map.mp hq
        exact pt_num (by have := (h.rr row hrow).2 x hx; omega)
    · rw [List.mem_singleton.mp hr] at hq
      rcases List.mem_cons.mp hq with rfl | hq
      · exact pt_low (by decide +kernel)
      · obtain ⟨x, hx, rfl⟩ := List.mem_map.mp hq
        exact pt_num (by have := h.gm x hx; omega)

/-! ### numbers in a line -/
def NUMS : List Str := (List.range 12).map fun i => strP (.b i)
structure NumC (K : PySem.W.Frag) (mg : Str → Option Value) (N : Addr) : Prop where
  mgN : mg "NUMBERS" = some (.ref N)
  obj : ∃ (its : Array Value) (n : Nat) (sl : Array (Option Value)), K.lookup N = some ⟨.type "tuple", none, .seq its n, sl⟩ ∧ its.size ≤ sizeLine ∧ Vals (NUMS.map V.str) its.toList
theorem NumC.sq {K : PySem.W.Frag} {mg : Str → Option Value} {N : Addr} (c : NumC K mg N) (H : Hp) : SqT K H N (NUMS.map V.str) := by
  obtain ⟨its, n, sl, h1, h2, h3⟩ := c.obj
  exact .inr ⟨_, its, n, h1, rfl, rfl, h2, h3⟩
theorem NumC.ty {K : PySem.W.Frag} {mg : Str → Option Value} {N : Addr} (c : NumC K mg N) (H : Hp) : tyV K "tuple" (.ref N) H := by
  obtain ⟨its, n, sl, h1, _⟩ := c.obj
  exact .inr (.inl ⟨rfl, _, h1, rfl, rfl⟩)
theorem nums_at : ∀ i, i < 12 → NUMS[i]? = some (strP (.b i)) := by decide +kernel
theorem nums_first : ∀ i, i < 12 → ∀ m, m < i → NUMS[m]? ≠ some (strP (.b i)) := by decide +kernel
theorem nums_in : ∀ m : Nat, m ≤ 12 → ∀ i, i < m → inV (.str (strP (.b i))) (cutV (NUMS.map V.str) none (some (m : Int))) = true := by decide +kernel
theorem nums_whole : ∀ m : Nat, m < 12 → ¬ (HT.sIx (NUMS.map V.str).length 0 none = 0 ∧ HT.sIx (NUMS.map V.str).length (NUMS.map V.str).length (some (m : Int)) = (NUMS.map V.str).length) := by decide +kernel
theorem flat_strs (l : List Str) : (l.map V.str).all flatV = true := by
  induction l with
  | nil => rfl
  | cons x r ih =>
    rw [List.map_cons, List.all_cons, ih]
    rfl
theorem flat_cut : ∀ m : Nat, m < 12 → (cutV (NUMS.map V.str) none (some (m : Int))).all flatV = true := by decide +kernel
theorem op_inKs {X : Cx} (K : PySem.W.Frag) (h : X.K = K := by rfl) : OpR X (compareOp .In) (rIn K false) := by
  subst h
  exact op_in_seq
def rTIx (K : PySem.W.Frag) : V → List V → Hp → VK → Prop := fun x xs H Q => ∃ p, ∃ ys : List Str, ∃ z j, x = .ref p ∧ xs = [.str z] ∧ SqT K H p (ys.map V.str) ∧ ys[j]? = some z ∧ (∀ m, m < j → ys[m]? ≠ some z) ∧ Q (.int (j : Nat)) H
theorem mt_tixK {X : Cx} (K : PySem.W.Frag) (h : X.K = K := by rfl) : MtR X "tuple.index" (rTIx K) := by
  subst h
  exact L2.mt_tup_index
def spNumsOf : Sp := fun vs H Q _ => ∃ (p : Addr) (ns : List Nat) (m : Nat), vs = [.ref p, .int m] ∧ H p = some (.lst ((ns.map fun i => strP (.b i)).map V.str)) ∧ m < 12 ∧ ns.length ≤ 300 ∧ (∀ i ∈ ns, i < m) ∧ ∀ (v : V) H', Same H H' → Tp H' v (wordD ns) → Q v H'
theorem sc_numsof : FnScope ["parts", "many", "part"] ["parts", "many"] (fnScope st_numbers_of) := fnScope_by (by decide +kernel)
section
variable {P : Program} {w : World} {K : PySem.W.Frag} {mg : Str → Option Value} {base : Heap} {f : Addr} {fd : FuncData}
theorem cal_numsof {N : Addr} (F : C8.Def K mg "_numbers_of" st_numbers_of f fd) (b : Binds K fd ["parts", "many"] []) (B : BN2 mg) (Ba : mg "all" = none) (C : NumC K mg N) : Cal P w K mg base 1 "_numbers_of" spNumsOf [] := by
  refine cal0 F b .nil sc_numsof (fun vs H Q E h => ?_) (fun cdv A outer s H vs Q E hr h => ?_)
  · obtain ⟨p, ns, m, rfl, _⟩ := h
    rfl
  · obtain ⟨p, ns, m, rfl, hp, m12, few, lt, k⟩ := h
    refine ⟨_, pss_cons (ps_if (pt_not (pt_val (pe_callB (cr_all rfl) (by rfl) Ba (by decide +kernel) (pa_cons (pe_lc (own := [("part", 2)]) (g := gName 2) (tt := tYes) (te := tOp (rIn K false) (tVar 2) (tSl (rSlA K) (tC (.ref N)) tNoPart (tPart (tVar 1)))) (by rfl) sc_numsof.nd (pi_list (pv 0)) (blkOk_by (own := [("part", 2)]) (N := ["parts", "many", "part"]) (sc := fnScope st_numbers_of) (by decide +kernel))
        (fun _ _ _ _ _ => pg_name (i := 2) sc_numsof.nd rfl (Or.inl rfl)) (fun _ _ _ _ _ => pts_nil) (fun _ _ _ _ _ => pe_cmpR (op_inKs K) (pv 2) (pe_slice (sl_tupAK K) (pe_glob (v := .ref N) (by rfl) C.mgN rfl) po_none (po_some (pv 1))) (by with_unfolding_all rfl))) pa_nil)))) (pss_one (ps_ret pe_non)) pss_nil)
      (pss_one (ps_ret (pe_callTy call_tuple_of (by rfl) B.tuple (by decide +kernel) (pa_cons (pe_lc (own := [("part", 2)]) (g := gName 2) (tt := tYes) (te := tBM K "tuple" (rTIx K) (tC (.ref N)) (tCons (tVar 2) tNil)) (by rfl) sc_numsof.nd (pi_list (pv 0)) (blkOk_by (own := [("part", 2)]) (N := ["parts", "many", "part"]) (sc := fnScope st_numbers_of) (by decide +kernel))
        (fun _ _ _ _ _ => pg_name (i := 2) sc_numsof.nd rfl (Or.inl rfl)) (fun _ _ _ _ _ => pts_nil) (fun _ _ _ _ _ => pe_bm PySem.F.plainAttrs_tuple PySem.F.slot_tuple_index PySem.F.type_tuple_index (mt_tixK K) (pe_glob (v := .ref N) (by rfl) C.mgN rfl) (pa_cons (pv 2) pa_nil))) pa_nil)))), ?_⟩
    have ln : (((ns.map fun i => strP (.b i))).map V.str).length = ns.length := by rw [List.length_map, List.length_map]
    refine ⟨_, rfl, p, rfl, ⟨_, SqL.of hp⟩, fun D hD => ?_⟩
    refine lc_list (K := K) (a := p) (xs := (ns.map fun i => strP (.b i)).map V.str) (fun i H' => Same H H' ∧ H' D = some (.lst ((List.replicate i true).map V.bl))) ⟨same_new hD, upd_same⟩ (fun i H' _ h => SqL.of (h.1 _ _ hp)) ?_ ?_
    · rintro i x H1 hi ⟨s1, hL⟩
      have ilt : i < ns.length := by
        have q := (List.getElem?_eq_some_iff.mp hi).1
        omega
      obtain rfl : x = V.str (strP (.b ns[i])) := by
        rw [List.getElem?_map, List.getElem?_map, List.getElem?_eq_getElem ilt] at hi
        exact (Option.some.inj hi).symm
      have il := lt _ (List.getElem_mem ilt)
      refine ⟨rfl, _, rfl, _, rfl, m, rfl, N, _, rfl, C.sq H1, fun z => absurd z (nums_whole m m12), fun _ q hq => ?_⟩
      have sq := same_new (o := .tup (cutV (NUMS.map V.str) none (some (m : Int)))) hq
      refine ⟨q, _, rfl, .inr (SqT.of upd_same), rfl, flat_cut m m12, _, sq _ _ hL, ?_, Same.put (Same.trans s1 sq) hD, ?_⟩
      · rw [List.length_map, List.length_replicate]
        exact low10 (by omega)
      · rw [upd_same, nums_in m (by omega) _ il]
        show some (HO.lst (_ ++ [V.bl true])) = some (HO.lst ((List.replicate (i + 1) true).map V.bl))
        rw [List.replicate_succ', List.map_append]
        rfl
    rintro H1 ⟨s1, hL⟩
    rw [ln] at hL
    refine ⟨D, _, rfl, SqL.of hL, _, rfl, iteF' ?_ ?_⟩
    · have e : (List.replicate ns.length true).all id = true := by
        induction ns.length with
        | zero => rfl
        | succ n ih => rw [List.replicate_succ, List.all_cons, ih]; rfl
      rw [e]
      rfl
    refine ⟨_, rfl, p, rfl, ⟨_, SqL.of (s1 _ _ hp)⟩, fun E hE => ?_⟩
    refine lc_list (K := K) (a := p) (xs := (ns.map fun i => strP (.b i)).map V.str) (fun i H' => Same H1 H' ∧ H' E = some (.lst ((iN (ns.take i)).map V.int))) ⟨same_new hE, upd_same⟩ (fun i H' _ h => SqL.of (h.1 _ _ (s1 _ _ hp))) ?_ ?_
    · rintro i x H2 hi ⟨s2, hL2⟩
      have ilt : i < ns.length := by
        have q := (List.getElem?_eq_some_iff.mp hi).1
        omega
      obtain rfl : x = V.str (strP (.b ns[i])) := by
        rw [List.getElem?_map, List.getElem?_map, List.getElem?_eq_getElem ilt] at hi
        exact (Option.some.inj hi).symm
      have il := lt _ (List.getElem_mem ilt)
      refine ⟨rfl, C.ty H2, _, rfl, N, NUMS, _, ns[i], rfl, rfl, C.sq H2, nums_at _ (by omega), nums_first _ (by omega), _, hL2, ?_, Same.put s2 hE, ?_⟩
      · rw [iN_len, List.length_take]
        exact low10 (by omega)
      · rw [upd_same, List.take_add_one, List.getElem?_eq_getElem ilt]
        exact congrArg some (congrArg HO.lst (iN_app _ _).symm)
    · rintro H2 ⟨s2, hL2⟩
      rw [ln, List.take_length] at hL2
      exact ⟨E, _, rfl, .inl ⟨SqL.of hL2, fun t ht => k _ _ (Same.trans (Same.trans s1 s2) (same_new ht)) (tp_word upd_same)⟩⟩
end

/-! ### words read: the draft -/
theorem for_enumL {K : PySem.W.Frag} {a : Addr} {xs : List V} {g : TG} {tb : TS} {D : Ends} {σ : L2.St} {H : Hp} (Pv : Nat → L2.St → Hp → Prop) (h0 : Pv 0 σ H) (hq : ∀ i σ H, Pv i σ H → SqL K H a xs)
    (hs : ∀ (i : Nat) (x : V) (T : Addr) (σ : L2.St) (H : Hp), xs[i]? = some x → Pv i σ H → H T = none → g (.ref T) σ (upd H T (.tup [.int (i : Nat), x])) fun σ2 H2 => tb { D with nx := Pv (i + 1), ct := Pv (i + 1), bk := D.nx } σ2 H2) (hd : ∀ σ H, Pv xs.length σ H → D.nx σ H) :
    ∃ W : Nat → Nat → L2.St → Hp → Prop, (∃ m, W 0 m σ H) ∧ ∀ i m σ H, W i m σ H →
      ((Ite K a).stop i H ∧ D.nx σ H) ∨ ((Ite K a).go i H ∧ ∃ N : L2.St → Hp → Prop, (∀ σ' H', N σ' H' → ∃ m', m' < m ∧ W (i + 1) m' σ' H') ∧ ∀ v H', (Ite K a).yld i H v H' → g v σ H' fun σ2 H2 => tb { D with nx := N, ct := N, bk := D.nx } σ2 H2) := by
  refine ⟨fun i m σ H => m = xs.length - i ∧ i ≤ xs.length ∧ Pv i σ H, ⟨xs.length, rfl, Nat.zero_le _, h0⟩, ?_⟩
  rintro i m σ H ⟨em, le, p⟩
  have at_a := hq i σ H p
  rcases Nat.lt_or_eq_of_le le with lt | eq
  · refine .inr ⟨⟨xs, xs[i], at_a, List.getElem?_eq_getElem lt⟩, Pv (i + 1), fun σ' H' p' => ⟨xs.length - (i + 1), by omega, rfl, lt, p'⟩, fun v H' y => ?_⟩
    obtain ⟨T, x, ev, hT, e, hx⟩ := y
    rw [e, ev]
    exact hs i x T σ H (hx xs at_a) p hT
  · refine .inl ⟨⟨xs, at_a, Nat.le_of_eq eq.symm⟩, hd σ H ?_⟩
    rw [← eq]
    exact p
theorem lt_line9 {n : Nat} (h : n ≤ 9000) : n < sizeLine := Nat.lt_of_le_of_lt h (by decide)
/-- a statement that is never come to -/
theorem ps_never {X : Cx} {st : Stmt} : PS X st (fun _ _ _ => False) := ⟨fun _ _ _ _ _ _ h => h.elim⟩
def fldW (l : Addr) : List (Str × V) := putF "words" (.ref l) []
theorem fldW_at (l : Addr) : (fldW l).lookup ("words" : Str) = some (.ref l) := by
  unfold fldW
  rw [lookup_putF, if_pos rfl]
theorem fldW_no (l : Addr) {m : Str} (h : ¬ m = "words") : (fldW l).lookup m = none := by
  unfold fldW
  rw [lookup_putF, if_neg h]
  rfl
structure WAt (C : Addr) (H : Hp) (p l : Addr) (ws : List (List Nat)) : Prop where
  ob : ∃ dx, H p = some (.ins C dx (fldW l))
  ls : LAt H l (ws.map wordD)
theorem WAt.ne {C p l : Addr} {H : Hp} {ws : List (List Nat)} (h : WAt C H p l ws) : p ≠ l := fun e => by
  obtain ⟨dx, h1⟩ := h.ob
  obtain ⟨us, h2, _⟩ := h.ls
  rw [e, h2] at h1
  cases h1
theorem WAt.same {C p l : Addr} {H H' : Hp} {ws : List (List Nat)} (h : WAt C H p l ws) (s : Same H H') : WAt C H' p l ws := by
  obtain ⟨dx, h1⟩ := h.ob
  exact ⟨⟨dx, s _ _ h1⟩, h.ls.same s⟩
/-- all but l stands -/
def But (l : Addr) (H H' : Hp) : Prop := ∀ b o, b ≠ l → H b = some o → H' b = some o
theorem But.trans {l : Addr} {H H1 H2 : Hp} (a : But l H H1) (b : But l H1 H2) : But l H H2 := fun x o n e => b x o n (a x o n e)
theorem But.of {l : Addr} {H H1 : Hp} (a : Same H H1) : But l H H1 := fun x o _ e => a x o e
structure WTxt (K : PySem.W.Frag) (mg : Str → Option Value) (C : Addr) : Prop where
  cl : Cls K C
  nw : NoAttr K C "words"
  kw : ∃ t, mg "KINDS_OF_WORDS" = some (.int 4 t)
def strsOf (r : Rc) : List V := (r.map strP).map V.str
def spWInit (C : Addr) : Sp := fun vs H Q _ => ∃ (p dx : Addr), vs = [.ref p] ∧ H p = some (.ins C dx []) ∧ ∀ (l : Addr) (H' : Hp), H l = none → WAt C H' p l [] → But p H H' → Q .non H'
def spWTakes (C : Addr) : Sp := fun vs H Q _ => ∃ (p q l : Addr) (ws : List (List Nat)) (w : List Nat), vs = [.ref p, .ref q] ∧ WAt C H p l ws ∧ H q = some (.lst (strsOf (wR w))) ∧ ws.length ≤ 9000 ∧ w.length ≤ 20 ∧ (∀ x ∈ w, x < 4) ∧ ∀ H', WAt C H' p l (ws ++ [w]) → But l H H' → Q (.bl true) H'
def spWWhole : Sp := fun vs H Q _ => ∃ v, vs = [v] ∧ Q (.bl true) H
def spWMade (C : Addr) : Sp := fun vs H Q _ => ∃ (p l : Addr) (ws : List (List Nat)), vs = [.ref p] ∧ WAt C H p l ws ∧ ∀ (v : V) H', Same H H' → Tp H' v (.tuple (ws.map wordD)) → Q v H'
theorem sc_winit : FnScope ["self"] ["self"] (fnScope stC_WordsDraft___init__) := fnScope_by (by decide +kernel)
theorem sc_wtakes : FnScope ["self", "parts", "word"] ["self", "parts"] (fnScope stC_WordsDraft_takes) := fnScope_by (by decide +kernel)
theorem sc_wwhole : FnScope ["self"] ["self"] (fnScope stC_WordsDraft_is_whole) := fnScope_by (by decide +kernel)
theorem sc_wmade : FnScope ["self"] ["self"] (fnScope stC_WordsDraft_made) := fnScope_by (by decide +kernel)
section
variable {P : Program} {w : World} {K : PySem.W.Frag} {mg : Str → Option Value} {base : Heap} {f C : Addr} {fd : FuncData}
theorem mak_words (M : Mk K C f) (hm : mg "WordsDraft" = some (.ref C)) (T : WTxt K mg C) (F : C8.Fun K "__init__" "WordsDraft.__init__" stC_WordsDraft___init__ f fd) (b : Binds K fd ["self"] []) : C8.Mak P w K mg base 1 "WordsDraft" C (spWInit C) [] := by
  refine C8.mak0 M hm F b .nil sc_winit (fun vs H Q E h => ?_) (fun cdv A outer s H vs Q E hr h => ?_)
  · obtain ⟨p, dx, rfl, _⟩ := h
    rfl
  · obtain ⟨p, dx, rfl, hp, k⟩ := h
    refine ⟨_, pss_one (ps_fld (pv 0) (pe_lst pa_nil) rfl), ?_⟩
    refine ⟨Nat.zero_le _, fun l hl => ?_⟩
    have npl : p ≠ l := ne_of_none hp hl
    refine ⟨_, rfl, p, C, dx, [], rfl, (by rw [upd_ne npl]; exact hp), T.cl, T.nw, (by show 0 < 1000; decide), ?_⟩
    refine k l _ hl ⟨⟨dx, upd_same⟩, [], by rw [upd_ne npl.symm, upd_same], .nil⟩ fun x o n e => ?_
    rw [upd_ne n, upd_ne (ne_of_none e hl)]
    exact e
theorem met_wtakes (T : WTxt K mg C) (me : Meth K C "takes" f) (F : C8.Fun K "takes" "WordsDraft.takes" stC_WordsDraft_takes f fd) (b : Binds K fd ["self", "parts"] []) (Cn : Cal P w K mg base 1 "_numbers_of" spNumsOf []) : C8.Met P w K mg base 2 C "takes" (spWTakes C) [] := by
  refine C8.met0 T.cl me F b sc_wtakes (fun vs H Q E h => ?_) (fun cdv A outer s H vs Q E hr h => ?_)
  · obtain ⟨p, q, l, ws, wd, rfl, _⟩ := h
    rfl
  · obtain ⟨p, q, l, ws, wd, rfl, hW, hq, many, wl, wx, k⟩ := h
    obtain ⟨t, hk⟩ := T.kw
    refine ⟨_, pss_cons (ps_set (i := 2) sc_wtakes.nd rfl (Or.inl rfl) (pe_c Cn hr (by decide) (by rfl) (pa_cons (pe_slice sl_list (pv 1) (po_some pe_int) po_none) (pa_cons (pe_glob (v := .int 4) (by rfl) hk ⟨_, rfl⟩) pa_nil))))
      (pss_cons (ps_if (PW.pt (pw_or (pt_cmpR op_ne (pe_ix ix_list (pv 1) pe_int (fun _ _ => rfl)) pe_str (nomark _)) (pw_or1 (pt_cmp (pc_isN (pv 2)))))) (pss_one (ps_ret pe_bl)) pss_nil)
      (pss_cons (ps_expr (pe_bm PySem.F.plainAttrs_list PySem.F.slot_list_append PySem.F.type_list_append mt_append (pe_fld (pv 0) rfl) (pa_cons (pv 2) pa_nil)))
      (pss_one (ps_ret pe_bl)))), ?_⟩
    have lq : (strsOf (wR wd)).length = wd.length + 1 := by
      unfold strsOf wR
      rw [List.length_map, List.length_map, List.length_cons, List.length_map]
    have cut : cutV (strsOf (wR wd)) (some 1) none = (wd.map fun i => strP (.b i)).map V.str := by
      have e : strsOf (wR wd) = V.str "word" :: (wd.map fun i => strP (.b i)).map V.str := by
        unfold strsOf wR
        rw [List.map_cons, List.map_map]
        rfl
      rw [e]
      exact cut_drop _ 1 (by rw [List.length_cons]; omega)
    refine ⟨_, rfl, 1, rfl, ?_⟩
    unfold tNoPart
    refine ⟨q, _, rfl, SqL.of hq, fun t1 ht1 => ?_⟩
    have s0 := same_new (o := .lst (cutV (strsOf (wR wd)) (some 1) none)) ht1
    refine ⟨t1, wd, 4, rfl, (by rw [upd_same, cut]), by decide, by omega, wx, fun v H1 s1 tv => ?_⟩
    have s01 := Same.trans s0 s1
    have hq1 := s01 _ _ hq
    obtain ⟨va, rfl, hva⟩ := tv.word_inv
    refine ⟨_, rfl, q, _, _, _, rfl, rfl, SqL.of hq1, atI_nat (j := 0) rfl, rfl, _, rfl, iteF' ?_ ?_⟩
    · show (!decide (V.str "word" = V.str "word")) = false
      rw [decide_eq_true rfl]
      rfl
    refine ⟨_, rfl, _, rfl, iteF' (decide_eq_false (fun z => by cases z)) ?_⟩
    have hW1 := hW.same s01
    obtain ⟨dx, h1⟩ := hW1.ob
    obtain ⟨us, hu, au⟩ := hW1.ls
    have npl := hW1.ne
    refine ⟨_, rfl, p, C, dx, _, _, rfl, h1, T.cl, T.nw, fldW_at _, .inl ⟨rfl, _, SqL.of hu⟩, _, rfl, l, _, _, rfl, rfl, hu, ?_, ?_⟩
    · rw [au.len, List.length_map]
      exact lt_line9 (by omega)
    have nal : va ≠ l := fun e => by
      rw [e, hu] at hva
      cases hva
    refine k _ ⟨⟨dx, by rw [upd_ne npl]; exact h1⟩, _, upd_same, ?_⟩ fun x o n e => ?_
    · rw [List.map_append]
      refine (au.mono (tk_lst hu)).app (.cons (tp_word ?_) .nil)
      rw [upd_ne nal]
      exact hva
    · rw [upd_ne n]
      exact s01 _ _ e
theorem met_wwhole (cl : Cls K C) (me : Meth K C "is_whole" f) (F : C8.Fun K "is_whole" "WordsDraft.is_whole" stC_WordsDraft_is_whole f fd) (b : Binds K fd ["self"] []) : C8.Met P w K mg base 1 C "is_whole" spWWhole [] := by
  refine C8.met0 cl me F b sc_wwhole (fun vs H Q E h => ?_) (fun cdv A outer s H vs Q E hr h => ?_)
  · obtain ⟨v, rfl, _⟩ := h
    rfl
  · obtain ⟨v, rfl, k⟩ := h
    exact ⟨_, pss_one (ps_ret pe_bl), k⟩
theorem met_wmade (T : WTxt K mg C) (B : BN2 mg) (me : Meth K C "made" f) (F : C8.Fun K "made" "WordsDraft.made" stC_WordsDraft_made f fd) (b : Binds K fd ["self"] []) : C8.Met P w K mg base 1 C "made" (spWMade C) [] := by
  refine C8.met0 T.cl me F b sc_wmade (fun vs H Q E h => ?_) (fun cdv A outer s H vs Q E hr h => ?_)
  · obtain ⟨p, l, ws, rfl, _⟩ := h
    rfl
  · obtain ⟨p, l, ws, rfl, hW, k⟩ := h
    obtain ⟨dx, h1⟩ := hW.ob
    obtain ⟨us, hu, au⟩ := hW.ls
    refine ⟨_, pss_one (ps_ret (pe_callTy call_tuple_of (by rfl) B.tuple (by decide +kernel) (pa_cons (pe_fld (pv 0) rfl) pa_nil))), ?_⟩
    refine ⟨_, rfl, p, C, dx, _, _, rfl, h1, T.cl, T.nw, fldW_at _, l, _, rfl, .inl ⟨SqL.of hu, fun t ht => ?_⟩⟩
    exact k _ _ (same_new ht) (.tup upd_same (au.mono (Same.tk (same_new ht))))
end

/-! ### words read: the lines -/
def spReadW (C : Addr) : Sp := fun vs H Q _ => ∃ (p l : Addr) (ws : List (List Nat)), vs = [.str (allT (ws.map wR)), .ref p] ∧ WAt C H p l [] ∧ ws.length ≤ 5000 ∧ (∀ w ∈ ws, w.length ≤ 20 ∧ ∀ x ∈ w, x < 4) ∧ ∀ H', WAt C H' p l ws → But l H H' → Q .non H'
theorem sc_read : FnScope ["text", "draft", "lines", "index", "line"] ["text", "draft"] (fnScope st_read) := fnScope_by (by decide +kernel)
theorem cut_last (xs : List V) (y : V) : cutV (xs ++ [y]) none (some (-1)) = xs := by
  have e : ((-1 : Int) + ((xs ++ [y]).length : Int)).toNat = xs.length := by
    rw [List.length_append, List.length_singleton]
    omega
  show List.take ((if (-1 : Int) < 0 then ((-1 : Int) + ((xs ++ [y]).length : Int)).toNat else min (-1 : Int).toNat (xs ++ [y]).length) - 0) (List.drop 0 (xs ++ [y])) = xs
  rw [if_pos (by decide), e, List.drop_zero, Nat.sub_zero]
  exact List.take_left' rfl
theorem lastI {α : Type} (xs : List α) (y : α) : atI (xs ++ [y]) (-1) = some y := by
  unfold atI ixN
  have e : (xs ++ [y]).length = xs.length + 1 := by rw [List.length_append]; rfl
  rw [if_neg (by decide), if_pos (by rw [e]; omega)]
  show (xs ++ [y])[((-1 : Int) + ((xs ++ [y]).length : Int)).toNat]? = some y
  have e2 : ((-1 : Int) + ((xs ++ [y]).length : Int)).toNat = xs.length := by rw [e]; omega
  rw [e2, List.getElem?_append_right (Nat.le_refl _), Nat.sub_self]
  rfl
section
variable {P : Program} {w : World} {K : PySem.W.Frag} {mg : Str → Option Value} {base : Heap} {f C : Addr} {fd : FuncData}
theorem cal_readW (F : C8.Def K mg "_read" st_read f fd) (b : Binds K fd ["text", "draft"] []) (Be : mg "enumerate" = none) (Mt : C8.Met P w K mg base 2 C "takes" (spWTakes C) []) (Mw : C8.Met P w K mg base 1 C "is_whole" spWWhole []) : Cal P w K mg base 3 "_read" (spReadW C) [] := by
  refine cal0 F b .nil sc_read (fun vs H Q E h => ?_) (fun cdv A outer s H vs Q E hr h => ?_)
  · obtain ⟨p, l, ws, rfl, _⟩ := h
    rfl
  · obtain ⟨p, l, ws, rfl, hW, many, ok, k⟩ := h
    refine ⟨_, pss_cons (ps_set (i := 2) sc_read.nd rfl (Or.inl rfl) (pe_split (pv 0) pe_str))
      (pss_cons (ps_for PassesOwn.never rfl (pi_enum rfl Be (pa_cons (pe_slice sl_list (pv 2) po_none (po_some (pe_un un_neg pe_int))) pa_nil)) (pg_tup rfl (pgs_cons (pg_name (i := 3) sc_read.nd rfl (Or.inl rfl)) (pgs_cons (pg_name (i := 4) sc_read.nd rfl (Or.inl rfl)) pgs_nil)))
        (pss_one (ps_if (pt_not (pt_val (C8.pe_mt Mt hr (by decide) (pv 1) (pa_cons (pe_split (pv 4) pe_str) pa_nil)))) (pss_one ps_never) pss_nil)))
      (pss_one (ps_if (PW.pt (pw_or (pt_cmpR op_ne (pe_ix ix_list (pv 2) (pe_un un_neg pe_int) (fun _ _ => rfl)) pe_str (nomark _)) (pw_or1 (pt_not (pt_val (C8.pe_mt0 Mw hr (by decide) (pv 1))))))) (pss_one ps_never) pss_nil))), ?_⟩
    have lines : ∀ r ∈ ws.map wR, LnOk r ∧ r.length ≤ 30 := fun r hr => by
      obtain ⟨w0, hw, rfl⟩ := List.mem_map.mp hr
      exact w_line ⟨(ok w0 hw).1, fun x hx => by have := (ok w0 hw).2 x hx; omega⟩
    have pts : ∀ r ∈ ws.map wR, ∀ q ∈ r, PtOk q := fun r hr => by
      obtain ⟨w0, hw, rfl⟩ := List.mem_map.mp hr
      exact w_pts fun x hx => by have := (ok w0 hw).2 x hx; omega
    have tl := allT_len _ lines
    rw [List.length_map] at tl
    have sp := lines_split pts
    have e1 : ("\n" : Str).length = 1 := by decide
    refine ⟨_, rfl, ⟨_, rfl⟩, _, _, rfl, rfl, by decide, Nat.le_trans (show _ ≤ 6000000 by omega) (by decide), fun l0 hl0 => ?_⟩
    rw [sp, List.map_append]
    have s0 := same_new (o := .lst ((((ws.map wR).map lnT).map V.str) ++ ([("" : Str)].map V.str))) hl0
    have h0 : upd H l0 (.lst ((((ws.map wR).map lnT).map V.str) ++ ([("" : Str)].map V.str))) l0 = some (.lst ((((ws.map wR).map lnT).map V.str) ++ [V.str ""])) := upd_same
    have hW0 := hW.same s0
    generalize upd H l0 (.lst ((((ws.map wR).map lnT).map V.str) ++ ([("" : Str)].map V.str))) = H0 at s0 h0 hW0 ⊢
    have nl0 : l0 ≠ l := fun e => by
      obtain ⟨us, hu, au⟩ := hW0.ls
      rw [← e, h0] at hu
      injection hu with hu
      injection hu with hu
      rw [← hu] at au
      have q := au.len
      rw [List.length_append, List.length_singleton, List.map_nil] at q
      cases q
    refine ⟨_, rfl, ?_⟩
    unfold tNoPart
    refine ⟨_, rfl, _, rfl, l0, _, rfl, SqL.of h0, fun l1 hl1 => ?_⟩
    have s1 := same_new (o := .lst (cutV ((((ws.map wR).map lnT).map V.str) ++ [V.str ""]) none (some (-1)))) hl1
    have h1 : upd H0 l1 (.lst (cutV ((((ws.map wR).map lnT).map V.str) ++ [V.str ""]) none (some (-1)))) l1 = some (.lst (((ws.map wR).map lnT).map V.str)) := by rw [upd_same, cut_last]
    have hW1 := hW0.same s1
    have h01 := s1 _ _ h0
    have nl1 : l1 ≠ l := fun e => by
      obtain ⟨us, hu, au⟩ := hW0.ls
      rw [← e, hl1] at hu
      cases hu
    generalize upd H0 l1 (.lst (cutV ((((ws.map wR).map lnT).map V.str) ++ [V.str ""]) none (some (-1)))) = H1 at s1 h1 hW1 h01 ⊢
    have lx : (((ws.map wR).map lnT).map V.str).length = ws.length := by rw [List.length_map, List.length_map, List.length_map]
    refine ⟨l1, _, rfl, SqL.of h1, for_enumL (K := K) (a := l1) (xs := ((ws.map wR).map lnT).map V.str) (fun i σ H' => (∃ v3 v4 : Option V, σ = [some (.str (allT (ws.map wR))), some (.ref p), some (.ref l0), v3, v4]) ∧ WAt C H' p l (ws.take i) ∧ But l H1 H')
      ⟨⟨_, _, rfl⟩, hW1, fun _ _ _ e => e⟩ (fun i σ H' h => SqL.of (h.2.2 _ _ nl1 h1)) ?_ ?_⟩
    · rintro i x T σ H2 hi ⟨⟨v3, v4, rfl⟩, hW2, b2⟩ hT
      have ilt : i < ws.length := by
        have q := (List.getElem?_eq_some_iff.mp hi).1
        omega
      obtain rfl : x = V.str (lnT (wR ws[i])) := by
        rw [List.getElem?_map, List.getElem?_map, List.getElem?_map, List.getElem?_eq_getElem ilt] at hi
        exact (Option.some.inj hi).symm
      have mem := List.getElem_mem ilt
      have memR : wR ws[i] ∈ ws.map wR := List.mem_map_of_mem mem
      have sT := same_new (o := .tup [.int (i : Nat), V.str (lnT (wR ws[i]))]) hT
      have hTT : upd H2 T (.tup [.int (i : Nat), V.str (lnT (wR ws[i]))]) T = some (.tup [.int (i : Nat), V.str (lnT (wR ws[i]))]) := upd_same
      have hW3 := hW2.same sT
      have b3 := b2.trans (But.of (l := l) sT)
      generalize upd H2 T (.tup [.int (i : Nat), V.str (lnT (wR ws[i]))]) = H3 at sT hTT hW3 b3 ⊢
      obtain ⟨dx, o3⟩ := hW3.ob
      have ps := parts_split (r := wR ws[i]) (by unfold wR; simp) (pts _ memR)
      have lnl : (lnT (wR ws[i])).length ≤ 2000 := by
        have q := lineT_len (lines _ memR).1
        have q2 := (lines _ memR).2
        have q3 : (lineT (wR ws[i])).length = (lnT (wR ws[i])).length + ("\n" : Str).length := Str.length_append ..
        omega
      refine ⟨T, _, rfl, SqT.of hTT, rfl, _, _, rfl, _, _, rfl, rfl, ?_⟩
      refine ⟨_, rfl, p, dx, _, rfl, o3, fldW_no _ (by decide +kernel), _, rfl, ⟨_, rfl⟩, _, _, rfl, rfl, by decide, Nat.le_trans (show _ ≤ 6000000 by omega) (by decide), fun q hq => ?_⟩
      rw [ps]
      have sq := same_new (o := .lst (((wR ws[i]).map strP).map V.str)) hq
      have tl2 : (ws.take i).length ≤ 9000 := by rw [List.length_take]; omega
      refine ⟨p, q, l, ws.take i, ws[i], rfl, hW3.same sq, upd_same, tl2, (ok _ mem).1, (ok _ mem).2, fun H4 hW4 b4 => ⟨_, rfl, iteF ?_⟩⟩
      refine ⟨⟨_, _, rfl⟩, ?_, b3.trans ((But.of (l := l) sq).trans b4)⟩
      rw [List.take_add_one, List.getElem?_eq_getElem ilt]
      exact hW4
    · rintro σ H2 ⟨⟨v3, v4, rfl⟩, hW2, b2⟩
      rw [lx, List.take_length] at hW2
      obtain ⟨dx, o2⟩ := hW2.ob
      have h02 := b2 _ _ nl0 h01
      refine ⟨_, rfl, _, rfl, l0, _, _, V.str "", rfl, rfl, SqL.of h02, ?_, rfl, _, rfl, iteF' ?_ ?_⟩
      · exact lastI _ _
      · show (!decide (V.str "" = V.str "")) = false
        rw [decide_eq_true rfl]
        rfl
      · refine ⟨_, rfl, p, dx, _, rfl, o2, fldW_no _ (by decide +kernel), _, rfl, _, rfl, iteF ?_⟩
        exact k _ hW2 ((But.of (l := l) (Same.trans s0 s1)).trans b2)
end

/-! ### words read: from a text -/
def spPWords : Sp := fun vs H Q _ => ∃ ws : List (List Nat), vs = [.str (allT (ws.map wR))] ∧ ws.length ≤ 5000 ∧ (∀ w ∈ ws, w.length ≤ 20 ∧ ∀ x ∈ w, x < 4) ∧ ∀ (v : V) H', Same H H' → Tp H' v (.tuple (ws.map wordD)) → Q v H'
theorem sc_pwords : FnScope ["text", "draft"] ["text"] (fnScope st_parse_words_) := fnScope_by (by decide +kernel)
section
variable {P : Program} {w : World} {K : PySem.W.Frag} {mg : Str → Option Value} {base : Heap} {f C : Addr} {fd : FuncData}
theorem cal_pwords (F : C8.Def K mg "parse_words" st_parse_words_ f fd) (b : Binds K fd ["text"] []) (Mk0 : C8.Mak P w K mg base 1 "WordsDraft" C (spWInit C) []) (Cr : Cal P w K mg base 3 "_read" (spReadW C) []) (Mm : C8.Met P w K mg base 1 C "made" (spWMade C) []) : Cal P w K mg base 4 "parse_words" spPWords [] := by
  refine cal0 F b .nil sc_pwords (fun vs H Q E h => ?_) (fun cdv A outer s H vs Q E hr h => ?_)
  · obtain ⟨ws, rfl, _⟩ := h
    rfl
  · obtain ⟨ws, rfl, many, ok, k⟩ := h
    obtain ⟨fI, fdI, psI, dsI, M, FI, hm, bI, dI⟩ := Mk0.ex
    refine ⟨_, pss_cons (ps_set (i := 1) sc_pwords.nd rfl (Or.inl rfl) (pe_make0 M FI (hr.mono (by decide)) rfl hm bI dI pass0))
      (pss_cons (ps_expr (pe_c Cr hr (by decide) (by rfl) (pa_cons (pv 0) (pa_cons (pv 1) pa_nil))))
      (pss_one (ps_ret (C8.pe_mt0 Mm hr (by decide) (pv 1))))), ?_⟩
    intro x dx nx ndx nex
    refine ⟨x, dx, rfl, upd_same, fun l H1 hl hW1 b1 => ⟨rfl, ?_⟩⟩
    have s0 : Same H (upd (upd H dx (.own x)) x (.ins C dx [])) := fun b o e => by
      rw [upd_ne (ne_of_none e nx), upd_ne (ne_of_none e ndx)]
      exact e
    have s1 : Same H H1 := fun b o e => b1 _ _ (ne_of_none e nx) (s0 _ _ e)
    have l0 : H l = none := Same.free s0 hl
    refine ⟨_, rfl, _, rfl, x, l, ws, rfl, hW1, many, ok, fun H2 hW2 b2 => ?_⟩
    have s2 : Same H H2 := fun b o e => b2 _ _ (ne_of_none e l0) (s1 _ _ e)
    obtain ⟨dx2, o2⟩ := hW2.ob
    exact ⟨_, rfl, x, dx2, _, rfl, o2, fldW_no _ (by decide +kernel), x, l, ws, rfl, hW2, fun v H3 s3 tv => k v _ (Same.trans s2 s3) tv⟩
end

/-! ### zip of two texts -/
namespace ZS
open PySem PySem.Spec PyProof.Rows L2
/-- a sign of each, at each turn -/
def ItzS (x y : Str) : It :=
  ⟨fun i _ => i < x.cps.size ∧ i < y.cps.size,
    fun i H v H' => ∃ T c d, v = .ref T ∧ H T = none ∧ H' = upd H T (.tup [.str ⟨#[c]⟩, .str ⟨#[d]⟩]) ∧ x.cps[i]? = some c ∧ y.cps[i]? = some d,
    fun i _ => i ≤ x.cps.size ∧ i ≤ y.cps.size ∧ (i = x.cps.size ∨ i = y.cps.size)⟩
theorem turn_zipS {P : Program} {w : World} {K : PySem.W.Frag} {elts : List Expr} {kk : Nat} {tpos : Pos} {x y : Str} {t u : Tok} {z TI TO i1 i2 : Addr} (S : ZipSep2 z TI TO i1 i2 [i1] [i2]) :
    Turn P w K (.Tuple elts kk tpos) (ItzS x y) [z, TI, TO, i1, i2] z (fun i h => IsZip h z TI TO .none ∧ IsTupOf2 h TI (.ref i1) (.ref i2) ∧ (∃ a b, IsTupOf2 h TO a b) ∧ h.IsStrIter i1 (strIterType x) x t i ∧ h.IsStrIter i2 (strIterType y) y u i) where
  mem := by simp
  obj := fun i h st c hc => by
    obtain ⟨hz, hTI, ⟨a, b, hTO⟩, ⟨o1, e1, _, d1⟩, ⟨o2, e2, _, d2⟩⟩ := st
    have e' : c = z ∨ c = TI ∨ c = TO ∨ c = i1 ∨ c = i2 := by simpa using hc
    rcases e' with q | q | q | q | q
    · rw [q]; exact ⟨_, hz, fun v q => nomatch q⟩
    · rw [q]; exact ⟨_, hTI, fun v q => nomatch q⟩
    · rw [q]; exact ⟨_, hTO, fun v q => nomatch q⟩
    · rw [q]; exact ⟨o1, e1, fun v q => by rw [d1] at q; cases q⟩
    · rw [q]; exact ⟨o2, e2, fun v q => by rw [d2] at q; cases q⟩
  keep := fun i h h' st k => by
    obtain ⟨hz, hTI, ⟨a, b, hTO⟩, ⟨o1, e1, r1⟩, ⟨o2, e2, r2⟩⟩ := st
    exact ⟨k z (by simp) _ hz, k TI (by simp) _ hTI, ⟨a, b, k TO (by simp) _ hTO⟩, ⟨o1, k i1 (by simp) o1 e1, r1⟩, ⟨o2, k i2 (by simp) o2 e2, r2⟩⟩
  item := by
    intro X hP hw hK hc i pins s σ H E I hf st hg
    subst hP hw hK
    obtain ⟨hz, hTI, ⟨x0, y0, hTO⟩, h1, h2⟩ := st
    obtain ⟨lx, ly⟩ := hg
    have hh : X.A.in1.handled = none := show X.A.handled = none from I.ok.hd hc
    have hzl : z < s.heap.objs.size := Heap.lt_size hz
    refine wpAny_pyNext_zipD2_item S (Draws.text hh i1 x t) (Draws.text hh i2 y u) hz hTI hTO h1 h2 lx ly fun v1 v2 h' tk p1 p2 z' TO' h1' h2' hT hsz hk => ?_
    obtain ⟨c, u1, hc1, rfl⟩ := p1
    obtain ⟨d, u2, hd1, rfl⟩ := p2
    refine ⟨_, rfl, wpAny_letOwnedTupleGo_zip (s := { s with heap := h', toks := tk }) z' fun h'' z'' sb => ?_⟩
    have hT2 : h''.get? s.heap.objs.size = some { cls := .type "tuple", data := .seq #[.str ⟨#[c]⟩ u1, .str ⟨#[d]⟩ u2] } := (sb.2 _ (Nat.ne_of_gt hzl)).trans hT
    have new : ObjOk X.prog X.w (upd H s.heap.objs.size (.tup [.str ⟨#[c]⟩, .str ⟨#[d]⟩])) h'' s.heap.objs.size (.tup [.str ⟨#[c]⟩, .str ⟨#[d]⟩]) :=
      ⟨by show 2 ≤ sizeLine; decide, [.str ⟨#[c]⟩ u1, .str ⟨#[d]⟩ u2], .cons ⟨_, rfl⟩ (.cons ⟨_, rfl⟩ .nil), ⟨_, hT2, rfl, _, rfl⟩⟩
    have I1 : Inv X pins σ (upd H s.heap.objs.size (.tup [.str ⟨#[c]⟩, .str ⟨#[d]⟩])) { s with heap := h'', toks := tk } :=
      I.turnedNew (t' := tk) (ch := [z, TI, TO, i1, i2]) (fun b o hb q => (sb.2 b (fun q' => hb (by simp [q']))).trans (hk b o (fun q' => hb (by simp [q'])) (fun q' => hb (by simp [q'])) (fun q' => hb (by simp [q'])) (fun q' => hb (by simp [q'])) q)) hf (Nat.le_refl _) new
    refine ⟨.ref s.heap.objs.size, _, I1, rfl, ⟨_, c, d, rfl, I.hok.fresh (Nat.le_refl _), rfl, hc1, hd1⟩, ⟨z'', ?_, ⟨.str ⟨#[c]⟩ u1, .str ⟨#[d]⟩ u2, ?_⟩, ?_, ?_⟩, fun b hb => ?_⟩
    · exact (sb.2 _ S.TIz).trans (hk _ _ S.TIz S.TITO S.TIi1 S.TIi2 hTI)
    · exact (sb.2 _ S.TOz).trans TO'
    · obtain ⟨o, ho, r⟩ := h1'
      exact ⟨o, (sb.2 _ (Ne.symm S.zi1)).trans ho, r⟩
    · obtain ⟨o, ho, r⟩ := h2'
      exact ⟨o, (sb.2 _ (Ne.symm S.zi2)).trans ho, r⟩
    · have hlt : b < s.heap.objs.size := by
        have e' : b = z ∨ b = TI ∨ b = TO ∨ b = i1 ∨ b = i2 := by simpa using hb
        rcases e' with q | q | q | q | q
        · rw [q]; exact hzl
        · rw [q]; exact Heap.lt_size hTI
        · rw [q]; exact Heap.lt_size hTO
        · rw [q]; obtain ⟨_, e1, _⟩ := h1; exact Heap.lt_size e1
        · rw [q]; obtain ⟨_, e2, _⟩ := h2; exact Heap.lt_size e2
      rw [upd_ne (Nat.ne_of_lt hlt)]
      exact (hf b hb).1
  done := by
    intro X hP hw hK hc i pins s σ H E I hf st hg
    subst hP hw hK
    obtain ⟨hz, hTI, ⟨x0, y0, hTO⟩, h1, h2⟩ := st
    obtain ⟨lx, ly, hend⟩ := hg
    have hh : X.A.in1.handled = none := show X.A.handled = none from I.ok.hd hc
    exact wpAny_pyNext_zipD2_end S (Draws.text hh i1 x t) (Draws.text hh i2 y u) hz hTI hTO h1 h2 lx ly hend fun h' tk hk => ⟨rfl, I.turnedL (t' := tk) (ch := [z, TI, TO, i1, i2]) (fun c o hb q =>
      hk c o (fun q' => hb (by simp [q'])) (fun q' => hb (by simp [q'])) (fun q' => hb (by simp [q'])) (fun q' => hb (by simp [q'])) q) hf⟩
  self := fun A i s Q E st h => wpAny_pyIter_zip st.1 h
def iZipS (ta : TA) : TI := fun σ H R => ta σ H fun vs H1 => ∃ x y, vs = [.str x, .str y] ∧ R (ItzS x y) H1
theorem pi_zipS {X : Cx} {e e2 : Expr} {ta : TA} {p pos tpos : Pos} {elts : List Expr} {kk : Nat} (hg : Gl X "zip") (hm : X.mg "zip" = none) (ha : PA X [e, e2] ta)
    (hs : starEach [e, e2] X.env = (false, eval e X.env) :: starEach [e2] X.env := by rfl) (hpl : (backTo pos (starEach [e2] X.env)).any (·.1) = false := by rfl) :
    PI X (.Tuple elts kk tpos) (.Call (.Name "zip" p) [e, e2] [] pos) (iZipS ta) := by
  refine ⟨fun pins s σ H R I h => ?_⟩
  refine Call_ (ld_blt I hg hm PyProof.Rows.boot_zip (PyProof.Rows.callWith_type1 (thn (ha.run pos pins s σ H _ I h) fun us s1 ⟨vs, H1, I1, r1, q1⟩ => ?_) hs hpl))
  obtain ⟨x, y, ex, q⟩ := q1
  subst ex
  cases r1 with
  | cons r rr =>
    cases rr with
    | cons r' rr =>
      cases rr
      obtain ⟨t, rfl⟩ := r
      obtain ⟨u, rfl⟩ := r'
      refine zip_begins2 (begins_text x t) (begins_text y u) trivial trivial fun h' hz hTI hTO h1 h2 hsz hk => wpAny_pyIter_zip hz ?_
      have I2 : Inv X pins σ H1 { s1 with heap := h' } := I1.kept (t' := s1.toks) hk
      have S : ZipSep2 (s1.heap.objs.size + 4) (s1.heap.objs.size + 2) (s1.heap.objs.size + 3) s1.heap.objs.size (s1.heap.objs.size + 1) [s1.heap.objs.size] [s1.heap.objs.size + 1] := zip_sep2 (fun b hb => by cases hb) (fun b hb => by cases hb)
      refine ⟨s1.heap.objs.size + 4, [s1.heap.objs.size + 4, s1.heap.objs.size + 2, s1.heap.objs.size + 3, s1.heap.objs.size, s1.heap.objs.size + 1], _, _, H1, rfl, I2, turn_zipS S, ⟨hz, hTI, ⟨_, _, hTO⟩, ⟨_, h1, rfl, rfl⟩, ⟨_, h2, rfl, rfl⟩⟩, fun c hcm => ?_, q⟩
      have e' : c = s1.heap.objs.size + 4 ∨ c = s1.heap.objs.size + 2 ∨ c = s1.heap.objs.size + 3 ∨ c = s1.heap.objs.size ∨ c = s1.heap.objs.size + 1 := by simpa using hcm
      have hle : s1.heap.objs.size ≤ c := by
        rcases e' with z | z | z | z | z
        · rw [z]; exact Nat.le_add_right _ _
        · rw [z]; exact Nat.le_add_right _ _
        · rw [z]; exact Nat.le_add_right _ _
        · rw [z]; exact Nat.le_refl _
        · rw [z]; exact Nat.le_add_right _ _
      exact I1.fpOk hle (I1.hok.fresh hle)
end ZS

/-! ### what ascends -/
theorem lc_zipS {x y : Str} {g : TG} {tt : TT} {te : TE} {vs : List Nat} {σ : L2.St} {H1 : Hp} {D : Addr} {Qd : Hp → Prop} (Pv : Nat → Hp → Prop) (hl : y.cps.size ≤ x.cps.size) (h0 : Pv 0 (upd H1 D (.lst [])))
    (hs : ∀ i c d T H, x.cps[i]? = some c → y.cps[i]? = some d → Pv i H → H T = none → g (.ref T) (wipe σ vs) (upd H T (.tup [.str ⟨#[c]⟩, .str ⟨#[d]⟩])) fun σ2 H2 => wipe σ2 vs = wipe σ vs ∧ tt σ2 H2 fun b H3 =>
      if b = true then te σ2 H3 fun z H4 => ∃ acc, H4 D = some (.lst acc) ∧ acc.length < sizeLine ∧ Pv (i + 1) (upd H4 D (.lst (acc ++ [z]))) else Pv (i + 1) H3) (hd : ∀ H, Pv y.cps.size H → Qd H) :
    ∃ W : Nat → Nat → Hp → Prop, (∃ m, W 0 m (upd H1 D (.lst []))) ∧ ∀ i m H, W i m H →
      ((ZS.ItzS x y).stop i H ∧ Qd H) ∨ ((ZS.ItzS x y).go i H ∧ ∃ Nx : Hp → Prop, (∀ H', Nx H' → ∃ m', m' < m ∧ W (i + 1) m' H') ∧ ∀ v H', (ZS.ItzS x y).yld i H v H' → g v (wipe σ vs) H' fun σ2 H2 => wipe σ2 vs = wipe σ vs ∧ tt σ2 H2 fun b H3 =>
        if b = true then te σ2 H3 fun z H4 => ∃ acc, H4 D = some (.lst acc) ∧ acc.length < sizeLine ∧ Nx (upd H4 D (.lst (acc ++ [z]))) else Nx H3) := by
  refine ⟨fun i m H => m = y.cps.size - i ∧ i ≤ y.cps.size ∧ Pv i H, ⟨y.cps.size, rfl, Nat.zero_le _, h0⟩, ?_⟩
  rintro i m H ⟨rfl, hi, p⟩
  rcases Nat.lt_or_eq_of_le hi with lt | eq
  · refine .inr ⟨⟨by omega, lt⟩, Pv (i + 1), fun H' p' => ⟨y.cps.size - (i + 1), by omega, rfl, lt, p'⟩, fun v H' q => ?_⟩
    obtain ⟨T, c, d, rfl, hT, rfl, hc, hd'⟩ := q
    exact hs i c d T H hc hd' p hT
  · subst eq
    exact .inl ⟨⟨hl, Nat.le_refl _, .inr rfl⟩, hd H p⟩
theorem lc_zipT {K : PySem.W.Frag} {a b : Addr} {xs ys : List V} {g : TG} {tt : TT} {te : TE} {vs : List Nat} {σ : L2.St} {H1 : Hp} {D : Addr} {Qd : Hp → Prop} (Pv : Nat → Hp → Prop) (hl : ys.length ≤ xs.length) (h0 : Pv 0 (upd H1 D (.lst []))) (hq : ∀ i H, Pv i H → SqT K H a xs ∧ SqT K H b ys)
    (hs : ∀ i x y T H, xs[i]? = some x → ys[i]? = some y → Pv i H → H T = none → g (.ref T) (wipe σ vs) (upd H T (.tup [x, y])) fun σ2 H2 => wipe σ2 vs = wipe σ vs ∧ tt σ2 H2 fun b H3 =>
      if b = true then te σ2 H3 fun z H4 => ∃ acc, H4 D = some (.lst acc) ∧ acc.length < sizeLine ∧ Pv (i + 1) (upd H4 D (.lst (acc ++ [z]))) else Pv (i + 1) H3) (hd : ∀ H, Pv ys.length H → Qd H) :
    ∃ W : Nat → Nat → Hp → Prop, (∃ m, W 0 m (upd H1 D (.lst []))) ∧ ∀ i m H, W i m H →
      ((RZ.ItzT K a b).stop i H ∧ Qd H) ∨ ((RZ.ItzT K a b).go i H ∧ ∃ Nx : Hp → Prop, (∀ H', Nx H' → ∃ m', m' < m ∧ W (i + 1) m' H') ∧ ∀ v H', (RZ.ItzT K a b).yld i H v H' → g v (wipe σ vs) H' fun σ2 H2 => wipe σ2 vs = wipe σ vs ∧ tt σ2 H2 fun b H3 =>
        if b = true then te σ2 H3 fun z H4 => ∃ acc, H4 D = some (.lst acc) ∧ acc.length < sizeLine ∧ Nx (upd H4 D (.lst (acc ++ [z]))) else Nx H3) := by
  refine ⟨fun i m H => m = ys.length - i ∧ i ≤ ys.length ∧ Pv i H, ⟨ys.length, rfl, Nat.zero_le _, h0⟩, ?_⟩
  rintro i m H ⟨rfl, hi, p⟩
  obtain ⟨qa, qb⟩ := hq i H p
  rcases Nat.lt_or_eq_of_le hi with lt | eq
  · have ltx : i < xs.length := by omega
    refine .inr ⟨⟨xs, ys, xs[i], ys[i], qa, qb, List.getElem?_eq_getElem ltx, List.getElem?_eq_getElem lt⟩, Pv (i + 1), fun H' p' => ⟨ys.length - (i + 1), by omega, rfl, lt, p'⟩, fun v H' q => ?_⟩
    obtain ⟨T, x, y, rfl, hT, rfl, hx, hy⟩ := q
    exact hs i x y T H (hx xs qa) (hy ys qb) p hT
  · subst eq
    exact .inl ⟨⟨xs, ys, qa, qb, .inr (Nat.le_refl _)⟩, hd H p⟩
def spAscS : Sp := fun vs H Q _ => ∃ z : Str, vs = [.str z] ∧ 1 ≤ z.length ∧ z.length ≤ 100 ∧ z.cps.toList.Pairwise (· < ·) ∧ ∀ H', Same H H' → Q (.bl true) H'
def spAscI : Sp := fun vs H Q _ => ∃ (v : V) (ns : List Nat), vs = [v] ∧ Tp H v (wordD ns) ∧ ns.length ≤ 100 ∧ ns.Pairwise (· < ·) ∧ ∀ H', Same H H' → Q (.bl true) H'
theorem sc_asc : FnScope ["values", "value", "later"] ["values"] (fnScope st_ascends_) := fnScope_by (by decide +kernel)
theorem drop_mapT {α β : Type} (g : α → β) (l : List α) (n : Nat) : (l.map g).drop n = (l.drop n).map g := (List.map_drop ..).symm
theorem all_true (n : Nat) : (List.replicate n true).all id = true := by
  induction n with
  | zero => rfl
  | succ n ih => rw [List.replicate_succ, List.all_cons, ih]; rfl
theorem cutS_tail {z : Str} (h : 1 ≤ z.length) : (cutS z (some 1) none).cps.toList = z.cps.toList.drop 1 := by
  have l : z.cps.toList.length = z.length := Array.length_toList ..
  show ((z.cps.toList.drop (HT.sIx z.length 0 (some ((1 : Nat) : Int)))).take (z.length - HT.sIx z.length 0 (some ((1 : Nat) : Int)))).toArray.toList = _
  rw [HT.sIx_nat, show min 1 z.length = 1 by omega]
  exact List.take_of_length_le (by rw [List.length_drop, l]; exact Nat.le_refl _)
section
variable {P : Program} {w : World} {K : PySem.W.Frag} {mg : Str → Option Value} {base : Heap} {f : Addr} {fd : FuncData}
theorem cal_ascS (F : C8.Def K mg "ascends" st_ascends_ f fd) (b : Binds K fd ["values"] []) (Ba : mg "all" = none) (Bz : mg "zip" = none) : Cal P w K mg base 1 "ascends" spAscS [] := by
  refine cal0 F b .nil sc_asc (fun vs H Q E h => ?_) (fun cdv A outer s H vs Q E hr h => ?_)
  · obtain ⟨z, rfl, _⟩ := h
    rfl
  · obtain ⟨z, rfl, h1, h100, up, k⟩ := h
    refine ⟨_, pss_one (ps_ret (pe_callB (cr_all rfl) (by rfl) Ba (by decide +kernel) (pa_cons (pe_lc (own := [("value", 1), ("later", 2)]) (g := gTup K 2 (gCons (gName 1) (gCons (gName 2) gNil))) (tt := tYes) (by rfl) sc_asc.nd (ZS.pi_zipS rfl Bz (pa_cons (pv 0) (pa_cons (pe_slice sl_str (pv 0) (po_some pe_int) po_none) pa_nil)))
      (blkOk_by (own := [("value", 1), ("later", 2)]) (N := ["values", "value", "later"]) (sc := fnScope st_ascends_) (by decide +kernel))
      (fun _ _ _ _ _ => pg_tupK K rfl (pgs_cons (pg_name (i := 1) sc_asc.nd rfl (Or.inl rfl)) (pgs_cons (pg_name (i := 2) sc_asc.nd rfl (Or.inl rfl)) pgs_nil))) (fun _ _ _ _ _ => pts_nil) (fun _ _ _ _ _ => pe_cmpR op_lt_str (pv 1) (pv 2) (nomark _))) pa_nil))), ?_⟩
    have tl := cutS_tail h1
    refine ⟨_, rfl, _, rfl, 1, rfl, ?_⟩
    unfold tNoPart
    refine ⟨z, rfl, Nat.le_trans h100 (by decide), z, _, rfl, fun D hD => ?_⟩
    generalize cutS z (some 1) none = y at tl ⊢
    have ly : y.cps.size + 1 = z.cps.size := by
      have q := congrArg List.length tl
      rw [List.length_drop, Array.length_toList, Array.length_toList] at q
      have h1' : 1 ≤ z.cps.size := h1
      omega
    refine lc_zipS (fun i H' => Same H H' ∧ H' D = some (.lst ((List.replicate i true).map V.bl))) (by omega) ⟨same_new hD, upd_same⟩ ?_ ?_
    · rintro i c d T H1 hc hd ⟨s1, hL⟩ hT
      have sT := same_new (o := .tup [.str ⟨#[c]⟩, .str ⟨#[d]⟩]) hT
      refine ⟨T, _, rfl, SqT.of upd_same, rfl, _, _, rfl, _, _, rfl, rfl, rfl, ?_⟩
      have hd2 : z.cps.toList[i + 1]? = some d := by
        have q : y.cps.toList[i]? = some d := by rw [Array.getElem?_toList]; exact hd
        rw [tl, List.getElem?_drop] at q
        rw [Nat.add_comm]
        exact q
      have hc2 : z.cps.toList[i]? = some c := by rw [Array.getElem?_toList]; exact hc
      have cd : c < d := by
        obtain ⟨p1, e1⟩ := List.getElem?_eq_some_iff.mp hc2
        obtain ⟨p2, e2⟩ := List.getElem?_eq_some_iff.mp hd2
        rw [← e1, ← e2]
        exact List.pairwise_iff_getElem.mp up i (i + 1) p1 p2 (Nat.lt_succ_self i)
      have lt : decide ((⟨#[c]⟩ : Str).cps.toList < (⟨#[d]⟩ : Str).cps.toList) = true := decide_eq_true (List.Lex.rel cd)
      refine ⟨_, rfl, _, rfl, _, _, rfl, rfl, _, sT _ _ hL, ?_, Same.put (Same.trans s1 sT) hD, ?_⟩
      · rw [List.length_map, List.length_replicate]
        have := (List.getElem?_eq_some_iff.mp hc2).1
        have l : z.cps.toList.length = z.length := Array.length_toList ..
        exact low10 (by omega)
      · rw [upd_same, lt, List.replicate_succ', List.map_append]
        rfl
    · rintro H1 ⟨s1, hL⟩
      refine ⟨D, _, rfl, SqL.of hL, ?_⟩
      rw [all_true]
      exact k _ s1
theorem cal_ascI (F : C8.Def K mg "ascends" st_ascends_ f fd) (b : Binds K fd ["values"] []) (Ba : mg "all" = none) (Bz : mg "zip" = none) : Cal P w K mg base 1 "ascends" spAscI [] := by
  refine cal0 F b .nil sc_asc (fun vs H Q E h => ?_) (fun cdv A outer s H vs Q E hr h => ?_)
  · obtain ⟨v, ns, rfl, _⟩ := h
    rfl
  · obtain ⟨v, ns, rfl, hv, h100, up, k⟩ := h
    obtain ⟨a, rfl, ha⟩ := hv.word_inv
    refine ⟨_, pss_one (ps_ret (pe_callB (cr_all rfl) (by rfl) Ba (by decide +kernel) (pa_cons (pe_lc (own := [("value", 1), ("later", 2)]) (g := gTup K 2 (gCons (gName 1) (gCons (gName 2) gNil))) (tt := tYes) (by rfl) sc_asc.nd (RZ.pi_zipA rfl Bz (pa_cons (pv 0) (pa_cons (pe_slice sl_tupA (pv 0) (po_some pe_int) po_none) pa_nil)))
      (blkOk_by (own := [("value", 1), ("later", 2)]) (N := ["values", "value", "later"]) (sc := fnScope st_ascends_) (by decide +kernel))
      (fun _ _ _ _ _ => pg_tupK K rfl (pgs_cons (pg_name (i := 1) sc_asc.nd rfl (Or.inl rfl)) (pgs_cons (pg_name (i := 2) sc_asc.nd rfl (Or.inl rfl)) pgs_nil))) (fun _ _ _ _ _ => pts_nil) (fun _ _ _ _ _ => pe_cmpR op_lt (pv 1) (pv 2) (nomark _))) pa_nil))), ?_⟩
    have ln := iN_len ns
    have sIx1 : HT.sIx ((iN ns).map V.int).length 0 (some 1) = min 1 ns.length := by
      rw [ln]
      exact HT.sIx_nat _ _ 1
    refine ⟨_, rfl, _, rfl, 1, rfl, ?_⟩
    unfold tNoPart
    refine ⟨a, _, rfl, SqT.of ha, fun wh => ?_, fun nw t ht => ?_⟩
    · have n0 : ns = [] := by
        have q := wh.1
        rw [sIx1] at q
        exact List.length_eq_zero_iff.mp (by omega)
      subst n0
      refine ⟨a, a, _, _, rfl, .inr ⟨SqT.of ha, SqT.of ha, fun D hD => ?_⟩⟩
      refine lc_zipT (K := K) (a := a) (b := a) (xs := []) (ys := []) (fun i H' => i = 0 ∧ Same H H' ∧ H' D = some (.lst [])) (Nat.le_refl _) ⟨rfl, same_new hD, upd_same⟩ (fun i H' h => ⟨SqT.of (h.2.1 _ _ ha), SqT.of (h.2.1 _ _ ha)⟩) (fun i x y T H1 hx => by cases hx) ?_
      rintro H1 ⟨_, s1, hL⟩
      exact ⟨D, [], rfl, SqL.of hL, k _ s1⟩
    · have n1 : 1 ≤ ns.length := by
        by_cases z : 1 ≤ ns.length
        · exact z
        · exact absurd ⟨(by rw [sIx1]; omega), rfl⟩ nw
      have cut : cutV ((iN ns).map V.int) (some 1) none = (iN (ns.drop 1)).map V.int := by
        have q := cut_drop ((iN ns).map V.int) 1 (by rw [ln]; exact n1)
        refine q.trans ?_
        unfold iN
        rw [drop_mapT, drop_mapT]
      have s0 := same_new (o := .tup (cutV ((iN ns).map V.int) (some 1) none)) ht
      have htv : upd H t (.tup (cutV ((iN ns).map V.int) (some 1) none)) t = some (.tup ((iN (ns.drop 1)).map V.int)) := by rw [upd_same, cut]
      generalize upd H t (.tup (cutV ((iN ns).map V.int) (some 1) none)) = H0 at s0 htv ⊢
      refine ⟨a, t, _, _, rfl, .inr ⟨SqT.of (s0 _ _ ha), SqT.of htv, fun D hD => ?_⟩⟩
      have ly : ((iN (ns.drop 1)).map V.int).length = ns.length - 1 := by rw [iN_len, List.length_drop]
      refine lc_zipT (K := K) (a := a) (b := t) (xs := (iN ns).map V.int) (ys := (iN (ns.drop 1)).map V.int) (fun i H' => Same H0 H' ∧ H' D = some (.lst ((List.replicate i true).map V.bl))) (by rw [ln, ly]; omega) ⟨same_new hD, upd_same⟩ (fun i H' h => ⟨SqT.of (h.1 _ _ (s0 _ _ ha)), SqT.of (h.1 _ _ htv)⟩) ?_ ?_
      · rintro i x y T H1 hx hy ⟨s1, hL⟩ hT
        have sT := same_new (o := .tup [x, y]) hT
        obtain ⟨c, hc, rfl⟩ : ∃ c, ns[i]? = some c ∧ x = V.int (c : Nat) := by
          unfold iN at hx
          rw [List.map_map, List.getElem?_map] at hx
          cases e : ns[i]? with
          | none => rw [e] at hx; cases hx
          | some c => rw [e] at hx; exact ⟨c, rfl, (Option.some.inj hx).symm⟩
        obtain ⟨d, hd, rfl⟩ : ∃ d, ns[i + 1]? = some d ∧ y = V.int (d : Nat) := by
          unfold iN at hy
          rw [List.map_map, List.getElem?_map, List.getElem?_drop, Nat.add_comm] at hy
          cases e : ns[i + 1]? with
          | none => rw [e] at hy; cases hy
          | some c => rw [e] at hy; exact ⟨c, rfl, (Option.some.inj hy).symm⟩
        have cd : c < d := by
          obtain ⟨p1, e1⟩ := List.getElem?_eq_some_iff.mp hc
          obtain ⟨p2, e2⟩ := List.getElem?_eq_some_iff.mp hd
          rw [← e1, ← e2]
          exact List.pairwise_iff_getElem.mp up i (i + 1) p1 p2 (Nat.lt_succ_self i)
        have lt : decide ((c : Int) < (d : Int)) = true := decide_eq_true (by omega)
        refine ⟨T, _, rfl, SqT.of upd_same, rfl, _, _, rfl, _, _, rfl, rfl, rfl, ?_⟩
        refine ⟨_, rfl, _, rfl, _, _, rfl, rfl, _, sT _ _ hL, ?_, Same.put (Same.trans s1 sT) hD, ?_⟩
        · rw [List.length_map, List.length_replicate]
          have := (List.getElem?_eq_some_iff.mp hc).1
          exact low10 (by omega)
        · rw [upd_same]
          show some (HO.lst (_ ++ [V.bl (decide ((c : Int) < (d : Int)))])) = _
          rw [lt, List.replicate_succ', List.map_append]
          rfl
      · rintro H1 ⟨s1, hL⟩
        refine ⟨D, _, rfl, SqL.of hL, ?_⟩
        rw [all_true]
        exact k _ (Same.trans s0 s1)
end

/-! ### len(set(text)), no letter twice -/
namespace TX
open PySem PySem.Spec PyProof.Rows
section
variable {prog : Program} {w : World} {A : Around} {R : Result → Shared → Prop} {I : Addr} {fp wr : List Addr} {G : Array GenState → Array GenState → Prop} {n : Nat} {P : Nat → Value → Prop} {St : Nat → Shared → Prop}
theorem any_more (xs : List Str) {i : Nat} (h : i < xs.length) (k : Str) : (xs.take (i + 1)).any (· == k) = ((xs.take i).any (· == k) || decide (k = xs[i])) := by
  rw [List.take_add_one, List.getElem?_eq_getElem h, List.any_append]
  refine congrArg (_ || ·) ?_
  show ((xs[i] == k) || false) = _
  rw [Bool.or_false]
  by_cases e : k = xs[i]
  · rw [decide_eq_true e, e]
    exact beq_self_eq_true _
  · rw [decide_eq_false e]
    exact beq_eq_false_iff_ne.mpr fun z => e z.symm
theorem any_not {xs : List Str} (nd : xs.Nodup) {i : Nat} (h : i < xs.length) : (xs.take i).any (· == xs[i]) = false := by
  rw [List.any_eq_false]
  intro y hy e
  obtain rfl : y = xs[i] := beq_iff_eq.mp e
  obtain ⟨j, hj, e2⟩ := List.mem_take_iff_getElem.mp hy
  exact List.pairwise_iff_getElem.mp nd j i (by omega) h (by omega) e2
theorem loopTx (W : WalksS prog w A.in1 I fp wr G n P St) (S : Addr) (off : S ∉ fp) (xs : List Str) (len : xs.length = n) (few : n ≤ 1000) (nd : xs.Nodup) (val : ∀ i v, P i v → ∃ t, v = .str (xs.getD i Str.empty) t) :
    ∀ (k i : Nat) (s : Shared), n - i = k → i ≤ n → St i s → s.heap.SetOf (PySem.strKind prog w) S (fun k' => (xs.take i).any (· == k')) i →
      (∀ s', Moved (S :: wr) G s s' → s'.heap.SetOf (PySem.strKind prog w) S (fun k' => (xs.take n).any (· == k')) n → R (.ok (.ret .none)) s') → codeAny (model prog w) A (.builtin "set.update.loop" ⟨[.ref S, .ref I], []⟩) R s := by
  have offw : S ∉ wr := fun h => off (W.sub _ h)
  have sub : ∀ b ∈ wr, b ∈ S :: wr := fun b hb => List.mem_cons_of_mem _ hb
  intro k
  induction k with
  | zero =>
    intro i s hk hi st hS fin
    obtain rfl : i = n := by omega
    refine codeAny_builtin F.entry_set_update_loop ?_
    rw [Around.under_plainId F.plain_set_update_loop _]
    refine wpAny_bind (W.done s _ _ st fun s' m => ?_)
    refine wpAny_pure (fin s' (m.mono sub) ?_)
    obtain ⟨o, es, ep, t, ho, rest⟩ := hS
    exact ⟨o, es, ep, t, m.heap S _ offw ho, rest⟩
  | succ k ih =>
    intro i s hk hi st hS fin
    have lt : i < n := by omega
    have ltx : i < xs.length := by omega
    refine codeAny_builtin F.entry_set_update_loop ?_
    rw [Around.under_plainId F.plain_set_update_loop _]
    refine wpAny_bind (W.item i s _ _ lt st fun v s' p st' m => ?_)
    obtain ⟨t, rfl⟩ := val i v p
    have gx : xs.getD i Str.empty = xs[i] := by rw [List.getD_eq_getElem?_getD, List.getElem?_eq_getElem ltx]; rfl
    rw [gx]
    have hS' : s'.heap.SetOf (PySem.strKind prog w) S (fun k' => (xs.take i).any (· == k')) i := by
      obtain ⟨o, es, ep, tb, ho, rest⟩ := hS
      exact ⟨o, es, ep, tb, m.heap S _ offw ho, rest⟩
    refine wpAny_bind (wpAny_holding ?_)
    unfold setAdd
    refine wpAny_holding ?_
    refine wpAny_bind ((PySem.strKind prog w).pyHash (k := xs[i]) (strKind_is _ _ _ _) ?_)
    refine wpAny_setAddHashed_of (knd := PySem.strKind prog w) (s := { s' with toks := s'.toks + 1 }) (strKind_is _ _ _ _) rfl hS' (by unfold scanBound; omega) fun h' sb hS2 => ?_
    have hSi : h'.SetOf (PySem.strKind prog w) S (fun k' => (xs.take (i + 1)).any (· == k')) (i + 1) := by
      refine SetOf_congr hS2 (fun k' => (any_more xs ltx k').symm) ?_
      rw [any_not nd ltx]
      rfl
    refine wpAny_pure ⟨plainId_quiet F.plain_set_update_loop _, ih (i + 1) _ (by omega) lt (W.frame _ s' _ _ st' (Nat.le_succ _) fun b hb o e => ?_) hSi fun s'' m'' hS'' => ?_⟩
    · rw [sb.2 b (fun h : b = S => off (h ▸ hb))]
      exact e
    · refine fin s'' (Moved.trans W.gtrans ((m.mono sub).then_heap (Nat.le_succ _) fun b o hb e => ?_) m'') hS''
      rw [sb.2 b (fun h : b = S => hb (by rw [h]; exact List.mem_cons_self))]
      exact e
end
section
variable {prog : Program} {w : World} {A : Around} {E : Value → Shared → Prop} {s : Shared}
def onesOf (z : Str) : List Str := z.cps.toList.map fun c => (⟨#[c]⟩ : Str)
theorem sign_val {z : Str} (i : Nat) (v : Value) (h : SignAt z i v) : ∃ t, v = .str ((onesOf z).getD i Str.empty) t := by
  obtain ⟨c, u, hc, rfl⟩ := h
  refine ⟨u, congrArg (fun x => Value.str x u) ?_⟩
  unfold onesOf
  rw [List.getD_eq_getElem?_getD, List.getElem?_map, Array.getElem?_toList, hc]
  rfl
set_option maxHeartbeats 3200000 in
theorem call_set_text {z : Str} {t : Tok} {Q : Value → Shared → Prop} (hh : A.handled = none) (few : z.cps.size ≤ 1000) (nd : z.cps.toList.Nodup)
    (h : ∀ (h' : Heap) (tk : Nat), h'.SetOf (PySem.strKind prog w) s.heap.objs.size (fun k' => ((onesOf z).take z.cps.size).any (· == k')) z.cps.size →
      (∀ b o, b < s.heap.objs.size → s.heap.get? b = some o → h'.get? b = some o) → Q (.ref s.heap.objs.size) { s with heap := h', toks := tk }) : wpAny (model prog w) A (call (.type "set") [.str z t]) Q E s := by
  obtain ⟨c, tl, hmro⟩ := PySem.F.called_set.mro
  have hmade := PySem.F.called_set.made
  have hsub := PySem.F.called_set.sub
  refine wpAny_call (codeAny_of_tree ?_)
  show wpAny _ _ (callAny (.type "set") _) _ _ _
  refine wpAny_pure ⟨Code.quiet_builtin _ (by decide +kernel), codeAny_builtin PySem.F.entry_type_call ?_⟩
  rw [Around.under_plain (weight_type_call_type "set" [.str z t] []) rfl]
  have h1 := PySem.F.called_set.notType
  have h2 := PySem.F.called_set.canCreate
  have hct := PySem.F.typeCall_set_1 (.str z t)
  repeat (any_goals (first | assumption | wp_step))

  refine codeAny_mono (code_set_new_1 (.str z t) (E := E) (Q₁ := fun obj s₁ => ∃ led : Bool, obj = .ref s.heap.objs.size ∧ s₁ = { s with heap := s.heap.push { cls := .type "set", dict := none, data := .set #[] 0 (.fresh 0 0 led) } }) fun led => ⟨led, rfl, rfl⟩) fun r s₁ hr => ?_
  cases r with
  | error e => exact hr
  | ok fl =>
    cases fl with
    | ret obj =>
      obtain ⟨led, rfl, rfl⟩ := hr
      have hS : (s.heap.push { cls := .type "set", dict := none, data := .set #[] 0 (.fresh 0 0 led) }).get? s.heap.objs.size = some { cls := .type "set", dict := none, data := .set #[] 0 (.fresh 0 0 led) } := Heap.get?_push_size _ rfl
      have hT : Shared.TypeIs { s with heap := s.heap.push { cls := .type "set", dict := none, data := .set #[] 0 (.fresh 0 0 led) } } (.ref s.heap.objs.size) "set" := ⟨_, hS, rfl⟩
      have hli := PySem.F.called_set.init.lookup
      have hbi := PySem.F.called_set.init.bind (.ref s.heap.objs.size)
      repeat (any_goals (first | assumption | wp_step))

      refine codeAny_mono (codeAny_call_builtin (R := wants (fun r s₂ => r = .none ∧ ∃ h' tk, s₂ = { s with heap := h', toks := tk } ∧
          h'.SetOf (PySem.strKind prog w) s.heap.objs.size (fun k' => ((onesOf z).take z.cps.size).any (· == k')) z.cps.size ∧
          (∀ b o, b < s.heap.objs.size → s.heap.get? b = some o → h'.get? b = some o)) E) PySem.F.called_set.init.plain PySem.F.entry_set_init (check_set_init_1 hT ?_)) fun r₂ s₂ hr₂ => ?_
      · have hsls := PySem.F.sub_str_set
        have hslf := PySem.F.sub_str_frozenset
        have hne : (Value.type "str" == Value.type "dict") = false := by decide
        unfold Builtin.«set.__init__» noKeywords Builtin.Frozenset.updateFrom
        generalize hPI : pyIter = PI
        wp_walk
        subst hPI
        refine wpAny_pyIter_strU ?_
        refine wpAny_bind (wpAny_runValue ?_)
        have hh3 : A.in1.in1.in1.handled = none := by simp [hh]
        generalize hI : (s.heap.push { cls := .type "set", dict := none, data := .set #[] 0 (.fresh 0 0 led) }).objs.size = I
        have nI : s.heap.objs.size ≠ I := by
          rw [← hI, Heap.size_push]
          exact Nat.ne_of_lt (Nat.lt_succ_self _)
        have W : Walks prog w A.in1.in1.in1 I [I] [I] z.cps.size (SignAt z) (fun i h => h.IsStrIter I (strIterType z) z t i) := by
          cases ha : z.cps.all (· < 128)
          · simp only [strIterType, ha, Bool.false_eq_true, if_false]
            exact .strWide hh3 I z t
          · simp only [strIterType, ha, if_true]
            exact .strAscii hh3 I z t
        have len : (onesOf z).length = z.cps.size := by
          unfold onesOf
          rw [List.length_map, Array.length_toList]
        have nd2 : (onesOf z).Nodup := by
          unfold onesOf
          refine List.pairwise_map.mpr (nd.imp fun {a b} hab e => hab ?_)
          have e2 := congrArg (fun x : Str => x.cps.toList) e
          exact (List.cons.inj e2).1
        refine loopTx W.toS s.heap.objs.size (fun hm => nI (List.mem_singleton.mp hm)) (onesOf z) len few nd2 sign_val (z.cps.size - 0) 0 _ rfl (Nat.zero_le _) ⟨_, by rw [← hI]; exact Heap.get?_push_size _ rfl, rfl, rfl⟩ ?hS0 ?hR
        case hS0 =>
          have got : ((s.heap.push { cls := .type "set", dict := none, data := .set #[] 0 (.fresh 0 0 led) }).push { cls := .type (strIterType z), data := .fields #[.str z t, .int 0 0] }).get? s.heap.objs.size
              = some { cls := .type "set", dict := none, data := .set #[] 0 (.fresh 0 0 led) } := Heap.get?_push_of_some _ hS
          exact SetOf_congr ((setObjOf_fresh (knd := PySem.strKind prog w) led).setOf got (by unfold scanBound; omega)) (fun _ => rfl) rfl
        case hR =>
          intro s' m hS'
          obtain ⟨h', g', d', tk', os'⟩ := s'
          have eg : g' = s.gens := m.gens
          have ed : d' = s.drawn := m.drawn
          have eo : os' = s.os := m.os
          subst eg ed eo
          show wpAny _ _ _ _ _ _
          refine wpAny_pure ?_
          show wpAny _ _ (ret Value.none) _ _ _
          refine wpAny_pure ⟨rfl, h', tk', rfl, hS', fun b o hb e => ?_⟩
          have b1 : b ≠ s.heap.objs.size := Nat.ne_of_lt hb
          have b2 : b ≠ I := by
            rw [← hI, Heap.size_push]
            exact Nat.ne_of_lt (Nat.lt_succ_of_lt hb)
          exact m.heap b o (by simp only [List.mem_cons, List.mem_singleton, List.not_mem_nil, or_false, not_or]; exact ⟨b1, b2⟩) (Heap.get?_push_of_some _ (Heap.get?_push_of_some _ e))
      · cases r₂ with
        | error e => exact hr₂
        | ok fl₂ =>
          cases fl₂ with
          | ret r =>
            obtain ⟨rfl, h', tk, rfl, hS', hk'⟩ := hr₂
            repeat (any_goals (first | assumption | wp_step))
            exact h _ _ hS' hk'
          | _ => exact hr₂.elim
    | _ => exact hr.elim
end
end TX

/-! ### groups looked at -/
def tLenSetT (ta : TE) : TE := fun σ H Q => ta σ H fun x H1 => ∃ z : Str, x = .str z ∧ z.length ≤ 1000 ∧ z.cps.toList.Nodup ∧ Q (.int (z.length : Nat)) H1
section
open PySem.Spec PyProof.Rows
theorem pe_lenSetT {X : Cx} {a : Expr} {ta : TE} {p p2 q pos : Pos} (hc : X.calm = true) (hg : Gl X "len") (hm : X.mg "len" = none) (hg2 : Gl X "set") (hm2 : X.mg "set" = none) (ha : PE X a ta)
    (na : starEach [a] X.env = (false, eval a X.env) :: starEach [] X.env := by rfl) : PE X (.Call (.Name "len" p) [.Call (.Name "set" p2) [a] [] q] [] pos) (tLenSetT ta) := by
  refine ⟨fun pins s σ H Q I h => ?_⟩
  refine Call_ (ld_blt I hg hm boot_len ?_)
  refine PyProof.Rows.callWith_builtin1 (PyProof.Rows.args_cons ?_ rfl) rfl rfl
  refine Call_ (ld_blt I hg2 hm2 boot_set ?_)
  refine PyProof.Rows.callWith_type1 (PyProof.Rows.args_cons (thn (ha.run pins s σ H _ I h) fun v s1 ⟨x, H1, I1, r1, q1⟩ => PyProof.Rows.args_nil ?_) na) na rfl
  obtain ⟨z, rfl, few, nd, q1⟩ := q1
  obtain ⟨t, rfl⟩ := r1
  refine TX.call_set_text (I1.ok.hd hc) few nd fun h' tk hS hk => ?_
  refine PyProof.Rows.args_nil ?_
  obtain ⟨o, es, ep, tb, ho, hex, hd, _, _, _, hf, hn⟩ := hS
  have I2 : Inv X pins σ H1 { s1 with heap := h', toks := tk } := I1.kept fun b o e => hk b o (Heap.lt_size e) e
  have few' : z.cps.size ≤ 1000 := few
  refine call_len_set ho hex hd hf (by rw [hn]; omega) ⟨.int z.length, H1, I2.tok _, ⟨_, by rw [hn]; rfl⟩, q1⟩
end
theorem lc_strG {x : Str} {g : TG} {tt : TT} {te : TE} {vs : List Nat} {σ : L2.St} {H1 : Hp} {D : Addr} {Qd : Hp → Prop} (Pv : Nat → Hp → Prop) (h0 : Pv 0 (upd H1 D (.lst [])))
    (hs : ∀ i c H, x.cps.toList[i]? = some c → Pv i H → g (.str ⟨#[c]⟩) (wipe σ vs) H fun σ2 H2 => wipe σ2 vs = wipe σ vs ∧ tt σ2 H2 fun b H3 =>
      if b = true then te σ2 H3 fun y H4 => ∃ acc, H4 D = some (.lst acc) ∧ acc.length < sizeLine ∧ Pv (i + 1) (upd H4 D (.lst (acc ++ [y]))) else Pv (i + 1) H3) (hd : ∀ H, Pv x.length H → Qd H) :
    ∃ W : Nat → Nat → Hp → Prop, (∃ m, W 0 m (upd H1 D (.lst []))) ∧ ∀ i m H, W i m H →
      ((Its x).stop i H ∧ Qd H) ∨ ((Its x).go i H ∧ ∃ Nx : Hp → Prop, (∀ H', Nx H' → ∃ m', m' < m ∧ W (i + 1) m' H') ∧ ∀ v H', (Its x).yld i H v H' → g v (wipe σ vs) H' fun σ2 H2 => wipe σ2 vs = wipe σ vs ∧ tt σ2 H2 fun b H3 =>
        if b = true then te σ2 H3 fun y H4 => ∃ acc, H4 D = some (.lst acc) ∧ acc.length < sizeLine ∧ Nx (upd H4 D (.lst (acc ++ [y]))) else Nx H3) := by
  refine ⟨fun i m H => m = x.length - i ∧ i ≤ x.length ∧ Pv i H, ⟨x.length, rfl, Nat.zero_le _, h0⟩, ?_⟩
  rintro i m H ⟨em, le, p⟩
  rcases Nat.lt_or_eq_of_le le with lt | eq
  · refine .inr ⟨lt, Pv (i + 1), fun H' p' => ⟨x.length - (i + 1), by omega, rfl, lt, p'⟩, fun v H' y => ?_⟩
    obtain ⟨e, c, hc, ev⟩ := y
    rw [e, ev]
    exact hs i c H (by rw [Array.getElem?_toList]; exact hc) p
  · refine .inl ⟨Nat.le_of_eq eq.symm, hd H ?_⟩
    rw [← eq]
    exact p
theorem isi_str {K : PySem.W.Frag} {H : Hp} (z : Str) : ∃ t : Value, TyX K H (.str z) t ∧ PySem.W.kitOne K t (.type "str") = some true := ⟨_, .base (.str z), kit_ty (by decide +kernel)⟩
def abcAll : Str := "abcdefghijklmnopqrstuvwxyz"
theorem abc_has : ∀ c, c < 123 → 97 ≤ c → decide (c ∈ abcAll.cps.toList) = true := by decide +kernel
/-- a group that is as told -/
structure GrpOk (z : Str) : Prop where
  l1 : 1 ≤ z.length
  l26 : z.length ≤ 26
  low : ∀ c ∈ z.cps.toList, 97 ≤ c ∧ c ≤ 122
  up : z.cps.toList.Pairwise (· < ·)
structure GTxt (mg : Str → Option Value) : Prop where
  abc : ∃ t, mg "ALPHABET" = some (.str abcAll t)
  mx : ∃ t, mg "MOST_GROUPS" = some (.int 3 t)
def spIsGroup : Sp := fun vs H Q _ => ∃ z : Str, vs = [.str z] ∧ GrpOk z ∧ ∀ H', Same H H' → Q (.bl true) H'
def spAreGroups : Sp := fun vs H Q _ => ∃ (v : V) (gs : List Str), vs = [v] ∧ Tp H v (.tuple (gs.map .str)) ∧ gs.length ≤ 3 ∧ (∀ z ∈ gs, GrpOk z) ∧ (flatS gs).Nodup ∧ ∀ H', Same H H' → Q (.bl true) H'
theorem sc_isgroup : FnScope ["value", "letter"] ["value"] (fnScope st_is_group) := fnScope_by (by decide +kernel)
theorem sc_aregroups : FnScope ["groups", "group", "letters"] ["groups"] (fnScope st_are_groups_) := fnScope_by (by decide +kernel)
theorem join_flat (gs : List Str) : (Txt.join "" gs).cps.toList = flatS gs := by
  rw [join_cps]
  unfold flatS
  rw [List.flatMap_def]
theorem flat_few {gs : List Str} (h : ∀ z ∈ gs, GrpOk z) : (gs.map (·.length)).sum ≤ 26 * gs.length := by
  induction gs with
  | nil => exact Nat.le_refl _
  | cons z r ih =>
    have a := (h z List.mem_cons_self).l26
    have b := ih fun y hy => h y (List.mem_cons_of_mem _ hy)
    rw [List.map_cons, List.sum_cons, List.length_cons, Nat.mul_succ]
    omega
section
variable {P : Program} {w : World} {K : PySem.W.Frag} {mg : Str → Option Value} {base : Heap} {f : Addr} {fd : FuncData}
theorem cal_isgroup (F : C8.Def K mg "_is_group" st_is_group f fd) (b : Binds K fd ["value"] []) (B : BN2 mg) (Ba : mg "all" = none) (T : GTxt mg) (Ca : Cal P w K mg base 1 "ascends" spAscS []) : Cal P w K mg base 2 "_is_group" spIsGroup [] := by
  refine cal0 F b .nil sc_isgroup (fun vs H Q E h => ?_) (fun cdv A outer s H vs Q E hr h => ?_)
  · obtain ⟨z, rfl, _⟩ := h
    rfl
  · obtain ⟨z, rfl, G, k⟩ := h
    obtain ⟨tt, hT⟩ := T.abc
    refine ⟨_, pss_cons (ps_if (PW.pt (pw_or (pt_not (pt_val (pe_callB call_isi (by rfl) B.isi (by decide +kernel) (pa_cons (pv 0) (pa_cons (pe_bltn (v := .ty "str") (by rfl) B.str (by decide +kernel) rfl) pa_nil)))))
        (pw_or (pt_cmpR op_eq (pv 0) pe_str (nomark _)) (pw_or1 (pt_cmpR op_gt (pe_callB call_len_str (by rfl) B.len PySem.boot_len (pa_cons (pv 0) pa_nil)) (pe_callB call_len_str (by rfl) B.len PySem.boot_len (pa_cons (pe_glob (v := .str abcAll) (by rfl) hT ⟨_, rfl⟩) pa_nil)) (nomark _)))))) (pss_one (ps_ret pe_bl)) pss_nil)
      (pss_one (ps_ret (pe_and (pe_callB (cr_all rfl) (by rfl) Ba (by decide +kernel) (pa_cons (pe_lc (own := [("letter", 1)]) (g := gName 1) (tt := tYes) (by rfl) sc_isgroup.nd (pi_str (pv 0)) (blkOk_by (own := [("letter", 1)]) (N := ["value", "letter"]) (sc := fnScope st_is_group) (by decide +kernel))
        (fun _ _ _ _ _ => pg_name (i := 1) sc_isgroup.nd rfl (Or.inl rfl)) (fun _ _ _ _ _ => pts_nil) (fun _ _ _ _ _ => pe_cmpR op_in_sign (pv 1) (pe_glob (v := .str abcAll) (by rfl) hT ⟨_, rfl⟩) rfl)) pa_nil))
        (pe_one (pe_c Ca hr (by decide) (by rfl) (pa_cons (pv 0) pa_nil)))))), ?_⟩
    obtain ⟨ty1, i1, i2⟩ := isi_str (K := K) (H := H) z
    refine ⟨_, rfl, .str z, _, ty1, _, true, rfl, .ty _, i1, i2, _, rfl, iteF ?_⟩
    have ne : V.str z ≠ V.str "" := fun e => by
      injection e with e
      have l1 := G.l1
      rw [e] at l1
      exact absurd l1 (by decide)
    refine ⟨_, rfl, rfl, _, rfl, iteF' (decide_eq_false ne) ?_⟩
    have l26 : (abcAll.length : Int) = 26 := by decide +kernel
    have zl := G.l26
    refine ⟨_, rfl, z, rfl, Nat.le_trans zl (by decide), abcAll, rfl, by decide +kernel, _, _, rfl, rfl, _, rfl, iteF' (decide_eq_false (by omega)) ?_⟩
    refine ⟨_, rfl, z, rfl, fun D hD => ?_⟩
    refine lc_strG (x := z) (fun i H' => Same H H' ∧ H' D = some (.lst ((List.replicate i true).map V.bl))) ⟨same_new hD, upd_same⟩ ?_ ?_
    · rintro i c H1 hc ⟨s1, hL⟩
      obtain ⟨c1, c2⟩ := G.low c (List.mem_of_getElem? hc)
      have il := (List.getElem?_eq_some_iff.mp hc).1
      have l : z.cps.toList.length = z.length := Array.length_toList ..
      refine ⟨rfl, _, rfl, c, abcAll, rfl, rfl, _, hL, ?_, Same.put s1 hD, ?_⟩
      · rw [List.length_map, List.length_replicate]
        exact low10 (by omega)
      · rw [upd_same, abc_has c (by omega) c1, List.replicate_succ', List.map_append]
        rfl
    · rintro H1 ⟨s1, hL⟩
      refine ⟨D, _, rfl, SqL.of hL, _, rfl, iteT' (all_true _) ⟨_, rfl, z, rfl, G.l1, by omega, G.up, fun H2 s2 => k _ (Same.trans s1 s2)⟩⟩
theorem cal_aregroups (F : C8.Def K mg "are_groups" st_are_groups_ f fd) (b : Binds K fd ["groups"] []) (B : BN2 mg) (Ba : mg "all" = none) (Bs : mg "set" = none) (T : GTxt mg) (Cg : Cal P w K mg base 2 "_is_group" spIsGroup []) : Cal P w K mg base 3 "are_groups" spAreGroups [] := by
  refine cal0 F b .nil sc_aregroups (fun vs H Q E h => ?_) (fun cdv A outer s H vs Q E hr h => ?_)
  · obtain ⟨v, gs, rfl, _⟩ := h
    rfl
  · obtain ⟨v, gs, rfl, hv, g3, ok, nd, k⟩ := h
    obtain ⟨a, xs, rfl, h1, h2⟩ := hv.tup_inv
    obtain rfl := tpAll_strs h2
    obtain ⟨tm, hM⟩ := T.mx
    refine ⟨_, pss_cons (ps_if (PW.pt (pw_or (pt_cmpR op_gt (pe_callB call_len_seq (by rfl) B.len PySem.boot_len (pa_cons (pv 0) pa_nil)) (pe_glob (v := .int 3) (by rfl) hM ⟨_, rfl⟩) (nomark _))
        (pw_or1 (pt_not (pt_val (pe_callB (cr_all rfl) (by rfl) Ba (by decide +kernel) (pa_cons (pe_lc (own := [("group", 1)]) (g := gName 1) (tt := tYes) (by rfl) sc_aregroups.nd (pi_tup (pv 0)) (blkOk_by (own := [("group", 1)]) (N := ["groups", "group", "letters"]) (sc := fnScope st_are_groups_) (by decide +kernel))
          (fun _ _ _ _ _ => pg_name (i := 1) sc_aregroups.nd rfl (Or.inl rfl)) (fun _ _ _ _ _ => pts_nil) (fun _ _ _ _ _ => pe_c Cg hr (by decide) (by rfl) (pa_cons (pv 1) pa_nil))) pa_nil))))))) (pss_one (ps_ret pe_bl)) pss_nil)
      (pss_cons (ps_set (i := 2) sc_aregroups.nd rfl (Or.inl rfl) (pe_join pe_str (pv 0)))
      (pss_one (ps_ret (pe_cmpR op_eq (pe_lenSetT rfl (by rfl) B.len (by rfl) Bs (pv 2)) (pe_callB call_len_str (by rfl) B.len PySem.boot_len (pa_cons (pv 2) pa_nil)) (nomark _))))), ?_⟩
    have lg : (gs.map V.str).length = gs.length := List.length_map ..
    refine ⟨_, rfl, a, _, rfl, .inr (SqT.of h1), _, _, rfl, rfl, _, rfl, iteF' (decide_eq_false (by omega)) ?_⟩
    refine ⟨_, rfl, a, rfl, ⟨_, SqT.of h1⟩, fun D hD => ?_⟩
    refine lc_tup (K := K) (a := a) (xs := gs.map V.str) (fun i H' => Same H H' ∧ H' D = some (.lst ((List.replicate i true).map V.bl))) ⟨same_new hD, upd_same⟩ (fun i H' _ h => SqT.of (h.1 _ _ h1)) ?_ ?_
    · rintro i x H1 hi ⟨s1, hL⟩
      have ilt : i < gs.length := by
        have q := (List.getElem?_eq_some_iff.mp hi).1
        omega
      obtain rfl : x = V.str gs[i] := by
        rw [List.getElem?_map, List.getElem?_eq_getElem ilt] at hi
        exact (Option.some.inj hi).symm
      refine ⟨rfl, _, rfl, gs[i], rfl, ok _ (List.getElem_mem ilt), fun H2 s2 => ⟨_, s2 _ _ hL, ?_, Same.put (Same.trans s1 s2) hD, ?_⟩⟩
      · rw [List.length_map, List.length_replicate]
        exact low10 (by omega)
      · rw [upd_same, List.replicate_succ', List.map_append]
        rfl
    · rintro H1 ⟨s1, hL⟩
      have few := flat_few ok
      have e0 : ("" : Str).length = 0 := by decide
      have jl : (Txt.join "" gs).length ≤ 78 := by
        rw [join_len]
        omega
      refine ⟨D, _, rfl, SqL.of hL, _, rfl, iteF' (by rw [all_true]; rfl) ?_⟩
      refine ⟨⟨_, rfl⟩, _, rfl, _, a, gs, rfl, rfl, .inr (SqT.of (s1 _ _ h1)), ?_, ?_⟩
      · rw [e0, Nat.mul_zero]
        exact Nat.le_trans (show _ ≤ 1000 by omega) (by decide)
      refine ⟨_, rfl, _, rfl, by omega, by rw [join_flat]; exact nd, _, rfl, _, rfl, Nat.le_trans jl (by decide), rfl, ?_⟩
      have e : decide (V.int ((Txt.join "" gs).length : Nat) = V.int ((Txt.join "" gs).length : Nat)) = true := decide_eq_true rfl
      rw [e]
      exact k _ s1
end

/-! ### a form read: the draft -/
theorem n_gt : ¬ (("groups" : Str) = "table") := by decide +kernel
theorem n_gg : ¬ (("groups" : Str) = "good") := by decide +kernel
theorem n_tg : ¬ (("table" : Str) = "good") := by decide +kernel
def fldF (g : V) (l : Addr) (gd : V) : List (Str × V) := putF "good" gd (putF "table" (.ref l) (putF "groups" g []))
theorem putF_nil (f : Str) (v : V) : putF f v [] = [(f, v)] := rfl
theorem putF_cons (f g : Str) (v x : V) (r : List (Str × V)) : putF f v ((g, x) :: r) = if g = f then (g, v) :: r else (g, x) :: putF f v r := rfl
theorem fldF_eq (g : V) (l : Addr) (gd : V) : fldF g l gd = ([("groups", g), ("table", V.ref l), ("good", gd)] : List (Str × V)) := by
  unfold fldF
  rw [putF_nil, putF_cons, if_neg n_gt, putF_nil, putF_cons, if_neg n_gg, putF_cons, if_neg n_tg, putF_nil]
theorem fldF_groups (g : V) (l : Addr) (gd : V) : (fldF g l gd).lookup ("groups" : Str) = some g := by
  unfold fldF
  rw [lookup_putF, if_neg n_gg, lookup_putF, if_neg n_gt, lookup_putF, if_pos rfl]
theorem fldF_table (g : V) (l : Addr) (gd : V) : (fldF g l gd).lookup ("table" : Str) = some (.ref l) := by
  unfold fldF
  rw [lookup_putF, if_neg n_tg, lookup_putF, if_pos rfl]
theorem fldF_good (g : V) (l : Addr) (gd : V) : (fldF g l gd).lookup ("good" : Str) = some gd := by
  unfold fldF
  rw [lookup_putF, if_pos rfl]
theorem fldF_no (g : V) (l : Addr) (gd : V) {m : Str} (h1 : ¬ m = "groups") (h2 : ¬ m = "table") (h3 : ¬ m = "good") : (fldF g l gd).lookup m = none := by
  unfold fldF
  rw [lookup_putF, if_neg h3, lookup_putF, if_neg h2, lookup_putF, if_neg h1]
  rfl
theorem fldF_len (g : V) (l : Addr) (gd : V) : (fldF g l gd).length < 1000 := by
  rw [fldF_eq]
  show 3 < 1000
  decide
theorem fldF_pg (g g' : V) (l : Addr) (gd : V) : putF "groups" g' (fldF g l gd) = fldF g' l gd := by
  rw [fldF_eq, fldF_eq, putF_cons, if_pos rfl]
theorem fldF_pd (g : V) (l : Addr) (gd gd' : V) : putF "good" gd' (fldF g l gd) = fldF g l gd' := by
  rw [fldF_eq, fldF_eq, putF_cons, if_neg n_gg, putF_cons, if_neg n_tg, putF_cons, if_pos rfl]
structure FTxt (K : PySem.W.Frag) (mg : Str → Option Value) (C : Addr) : Prop where
  cl : Cls K C
  ng : NoAttr K C "groups"
  nt : NoAttr K C "table"
  nd : NoAttr K C "good"
  ms : ∃ t, mg "MOST_FORM_STATES" = some (.int 4 t)
/-- the draft behind i lines of a form -/
structure FSt (C : Addr) (f : Fm) (m : Nat) (H : Hp) (p l : Addr) (i : Nat) (g gd : V) : Prop where
  ob : ∃ dx, H p = some (.ins C dx (fldF g l gd))
  ls : LAt H l ((f.rows.take (i - 1)).map wordD)
  g0 : i = 0 → g = .non
  g1 : 1 ≤ i → Tp H g (.tuple (f.groups.map .str))
  d0 : i ≤ m + 1 → gd = .non
  d1 : i = m + 2 → Tp H gd (wordD f.good)
theorem FSt.ne {C p l : Addr} {f : Fm} {m i : Nat} {H : Hp} {g gd : V} (h : FSt C f m H p l i g gd) : p ≠ l := fun e => by
  obtain ⟨dx, h1⟩ := h.ob
  obtain ⟨us, h2, _⟩ := h.ls
  rw [e, h2] at h1
  cases h1
theorem FSt.same {C p l : Addr} {f : Fm} {m i : Nat} {H H' : Hp} {g gd : V} (h : FSt C f m H p l i g gd) (s : Same H H') : FSt C f m H' p l i g gd := by
  obtain ⟨dx, h1⟩ := h.ob
  exact ⟨⟨dx, s _ _ h1⟩, h.ls.same s, h.g0, fun q => (h.g1 q).mono (Same.tk s), h.d0, fun q => (h.d1 q).mono (Same.tk s)⟩
def But2 (p l : Addr) (H H' : Hp) : Prop := ∀ b o, b ≠ p → b ≠ l → H b = some o → H' b = some o
theorem But2.trans {p l : Addr} {H H1 H2 : Hp} (a : But2 p l H H1) (b : But2 p l H1 H2) : But2 p l H H2 := fun x o n n2 e => b x o n n2 (a x o n n2 e)
theorem But2.of {p l : Addr} {H H1 : Hp} (a : Same H H1) : But2 p l H H1 := fun x o _ _ e => a x o e
/-- tuples stand where a draft's own objects alone change -/
theorem But2.tk {p l : Addr} {H H1 : Hp} (a : But2 p l H H1) (hp : ∀ xs, H p ≠ some (.tup xs)) (hl : ∀ xs, H l ≠ some (.tup xs)) : TK H H1 := fun b xs e => a b _ (fun z => hp xs (z ▸ e)) (fun z => hl xs (z ▸ e)) e
def spFInit (C : Addr) : Sp := fun vs H Q _ => ∃ (p dx : Addr), vs = [.ref p] ∧ H p = some (.ins C dx []) ∧ ∀ (l : Addr) (H' : Hp), H l = none → H' p = some (.ins C dx (fldF .non l .non)) → H' l = some (.lst []) → (∀ b o, b ≠ p → H b = some o → H' b = some o) → Q .non H'
def spFWhole (C : Addr) : Sp := fun vs H Q _ => ∃ (p l dx : Addr) (g gd : V), vs = [.ref p] ∧ H p = some (.ins C dx (fldF g l gd)) ∧ gd ≠ .non ∧ Q (.bl true) H
def spFMade (C : Addr) : Sp := fun vs H Q _ => ∃ (p l dx : Addr) (f : Fm) (g gd : V), vs = [.ref p] ∧ H p = some (.ins C dx (fldF g l gd)) ∧ LAt H l (f.rows.map wordD) ∧ Tp H g (.tuple (f.groups.map .str)) ∧ Tp H gd (wordD f.good) ∧ ∀ (v : V) H', Same H H' → Tp H' v f.d → Q v H'
theorem sc_finit : FnScope ["self"] ["self"] (fnScope stC_FormDraft___init__) := fnScope_by (by decide +kernel)
theorem sc_fwhole : FnScope ["self"] ["self"] (fnScope stC_FormDraft_is_whole) := fnScope_by (by decide +kernel)
theorem sc_fmade : FnScope ["self"] ["self"] (fnScope stC_FormDraft_made) := fnScope_by (by decide +kernel)
section
variable {P : Program} {w : World} {K : PySem.W.Frag} {mg : Str → Option Value} {base : Heap} {f C : Addr} {fd : FuncData}
theorem mak_form (M : Mk K C f) (hm : mg "FormDraft" = some (.ref C)) (T : FTxt K mg C) (F : C8.Fun K "__init__" "FormDraft.__init__" stC_FormDraft___init__ f fd) (b : Binds K fd ["self"] []) : C8.Mak P w K mg base 1 "FormDraft" C (spFInit C) [] := by
  refine C8.mak0 M hm F b .nil sc_finit (fun vs H Q E h => ?_) (fun cdv A outer s H vs Q E hr h => ?_)
  · obtain ⟨p, dx, rfl, _⟩ := h
    rfl
  · obtain ⟨p, dx, rfl, hp, k⟩ := h
    refine ⟨_, pss_cons (ps_fld (pv 0) pe_non rfl) (pss_cons (ps_fld (pv 0) (pe_lst pa_nil) rfl) (pss_one (ps_fld (pv 0) pe_non rfl))), ?_⟩
    refine ⟨_, rfl, p, C, dx, [], rfl, hp, T.cl, T.ng, (by show 0 < 1000; decide), ?_⟩
    refine ⟨Nat.zero_le _, fun l hl => ?_⟩
    have hp1 : upd H p (.ins C dx (putF "groups" .non [])) p = some (.ins C dx (putF "groups" .non [])) := upd_same
    have npl : p ≠ l := ne_of_none hp1 hl
    have l0 : H l = none := by
      rw [upd_ne (Ne.symm npl)] at hl
      exact hl
    refine ⟨_, rfl, p, C, dx, _, rfl, (by rw [upd_ne npl]; exact hp1), T.cl, T.nt, (by show 1 < 1000; decide), ?_⟩
    refine ⟨_, rfl, p, C, dx, _, rfl, upd_same, T.cl, T.nd, ?_, ?_⟩
    · rw [putF_nil, putF_cons, if_neg n_gt, putF_nil]
      show 2 < 1000
      decide
    refine k l _ l0 upd_same (by rw [upd_ne (Ne.symm npl), upd_ne (Ne.symm npl), upd_same]) fun x o n e => ?_
    rw [upd_ne n, upd_ne n, upd_ne (ne_of_none e l0), upd_ne n]
    exact e
theorem met_fwhole (T : FTxt K mg C) (me : Meth K C "is_whole" f) (F : C8.Fun K "is_whole" "FormDraft.is_whole" stC_FormDraft_is_whole f fd) (b : Binds K fd ["self"] []) : C8.Met P w K mg base 1 C "is_whole" (spFWhole C) [] := by
  refine C8.met0 T.cl me F b sc_fwhole (fun vs H Q E h => ?_) (fun cdv A outer s H vs Q E hr h => ?_)
  · obtain ⟨p, l, dx, g, gd, rfl, _⟩ := h
    rfl
  · obtain ⟨p, l, dx, g, gd, rfl, hp, hg, k⟩ := h
    refine ⟨_, pss_one (ps_ret (pe_cmp (pc_notN (pe_fld (pv 0) rfl)) rfl)), ?_⟩
    refine ⟨_, rfl, p, C, dx, _, _, rfl, hp, T.cl, T.nd, fldF_good _ _ _, ?_⟩
    have e : (!decide (gd = V.non)) = true := by rw [decide_eq_false hg]; rfl
    show Q (V.bl (!decide (gd = V.non))) H
    rw [e]
    exact k
theorem met_fmade (T : FTxt K mg C) (B : BN2 mg) (me : Meth K C "made" f) (F : C8.Fun K "made" "FormDraft.made" stC_FormDraft_made f fd) (b : Binds K fd ["self"] []) : C8.Met P w K mg base 1 C "made" (spFMade C) [] := by
  refine C8.met0 T.cl me F b sc_fmade (fun vs H Q E h => ?_) (fun cdv A outer s H vs Q E hr h => ?_)
  · obtain ⟨p, l, dx, fm, g, gd, rfl, _⟩ := h
    rfl
  · obtain ⟨p, l, dx, fm, g, gd, rfl, hp, hL, tg, td, k⟩ := h
    obtain ⟨us, hu, au⟩ := hL
    refine ⟨_, pss_one (ps_ret (pe_tup (pa_cons (pe_fld (pv 0) rfl) (pa_cons (pe_callTy call_tuple_of (by rfl) B.tuple (by decide +kernel) (pa_cons (pe_fld (pv 0) rfl) pa_nil)) (pa_cons (pe_fld (pv 0) rfl) pa_nil))))), ?_⟩
    refine ⟨_, rfl, p, C, dx, _, _, rfl, hp, T.cl, T.ng, fldF_groups _ _ _, _, rfl, p, C, dx, _, _, rfl, hp, T.cl, T.nt, fldF_table _ _ _, l, _, rfl, .inl ⟨SqL.of hu, fun t ht => ?_⟩⟩
    have s1 := same_new (o := .tup us) ht
    have tr : Tp (upd H t (.tup us)) (.ref t) (.tuple (fm.rows.map wordD)) := .tup upd_same (au.mono (Same.tk s1))
    refine ⟨_, rfl, p, C, dx, _, _, rfl, s1 _ _ hp, T.cl, T.nd, fldF_good _ _ _, (by show 3 ≤ sizeLine; decide), fun u hu2 => ?_⟩
    have s2 := same_new (o := .tup [g, .ref t, gd]) hu2
    exact k _ _ (Same.trans s1 s2) (.tup upd_same (.cons ((tg.mono (Same.tk s1)).mono (Same.tk s2)) (.cons (tr.mono (Same.tk s2)) (.cons ((td.mono (Same.tk s1)).mono (Same.tk s2)) .nil))))
end

/-! ### the greatest number of a tuple -/
namespace MT2
open PySem PySem.Spec PyProof.Rows L2
section
variable {prog : Program} {w : World} {A : Around} {E : Value → Shared → Prop} {s : Shared} {l : Addr} {xs : Array (Int × Tok)} {its : List Value} {ns : List Int}
theorem max_intTup {Q : Value → Shared → Prop} (hh : A.handled = none) (hl : s.heap.IsTuple l (intItems xs)) (hne : 0 < xs.size)
    (h : ∀ v h' tk, (intItems xs)[argBest (fun i j => decide (numAt xs i > numAt xs j)) (xs.size - 1)]? = some v → (∀ b o, s.heap.get? b = some o → h'.get? b = some o) → Q v { s with heap := h', toks := tk }) :
    wpAny (model prog w) A (call (.builtin "max") [.ref l]) Q E s := by
  have lt : l < s.heap.objs.size := by obtain ⟨_, e, _⟩ := hl; exact Heap.lt_size e
  refine call_max_walk (wpAny_pyIter_tuple hl ?_)
  refine ⟨_, _, _, _, _, _, _, rfl, Walks.tuple (A := A.in1) hh _ l (Nat.ne_of_lt lt) (intItems xs), ⟨⟨_, Heap.get?_push_size _ rfl, rfl, rfl⟩, hl.push _⟩, fun b hb => ?_, by simpa [intItems] using hne, CmpOf.ints_gt (numAt xs) (fun _ _ => intItems_at), fun v h' tk hP hk => ?_⟩
  · show b < (s.heap.push _).objs.size
    rw [Heap.size_push]
    rcases List.mem_cons.mp hb with rfl | hb
    · exact Nat.lt_succ_self _
    · rw [List.mem_singleton.mp hb]
      exact Nat.lt_succ_of_lt lt
  · refine h v h' tk (by simpa [intItems] using hP) fun b o e => hk b o (fun hm => ?_) (Heap.get?_push_of_some _ e)
    rw [List.mem_singleton.mp hm] at e
    exact absurd (Heap.lt_size e) (Nat.lt_irrefl _)
theorem maxT_raw {Q : Value → Shared → Prop} (hh : A.handled = none) (hl : s.heap.IsTuple l its.toArray) (hi : IntsAre its ns) (hne : 0 < ns.length)
    (h : ∀ h' tk M t', (∀ b o, s.heap.get? b = some o → h'.get? b = some o) → M ∈ ns → (∀ a, a ∈ ns → a ≤ M) → Q (.int M t') { s with heap := h', toks := tk }) : wpAny (model prog w) A (call (.builtin "max") [.ref l]) Q E s := by
  obtain ⟨xs, e⟩ := hi.allInts.items
  have hn : numsOf (intItems xs).toList = ns := by rw [← e]; exact hi.numsOf
  rw [nums_intItems] at hn
  subst hn
  rw [e] at hl
  have hsz : 0 < xs.size := by simpa using hne
  refine max_intTup hh hl hsz fun v h' tk hv hk => ?_
  obtain ⟨t, rfl⟩ := intItems_at hv
  obtain ⟨h1, h2⟩ := argBest_gt (numAt xs) (xs.size - 1)
  refine h h' tk _ t hk ?_ fun a ha => ?_
  · rw [numAt_eq]; exact PySem.getD_mem (by rw [List.length_map, Array.length_toList]; omega)
  · obtain ⟨j, hj, rfl⟩ := mem_getD ha
    rw [List.length_map, Array.length_toList] at hj
    rw [← numAt_eq]; exact h2 j (by omega)
end
def rMaxT (K : PySem.W.Frag) : List V → Hp → VK → Prop := fun vs H Q => ∃ (a : Addr) (ns : List Int), vs = [V.ref a] ∧ SqT K H a (ns.map V.int) ∧ 0 < ns.length ∧ ∀ m, m ∈ ns → (∀ y, y ∈ ns → y ≤ m) → Q (.int m) H
theorem cr_maxTK {X : Cx} (K : PySem.W.Frag) (hc : X.calm = true) (hK : X.K = K := by rfl) : CallR X (.builtin "max") (rMaxT K) := by
  subst hK
  intro pins s σ H vs us Q I r h
  obtain ⟨a, ns, rfl, hs, hne, q⟩ := h
  obtain ⟨its, rv, hl, _⟩ := I.tuple hs
  rw [Vals.ref1 r]
  exact maxT_raw (I.ok.hd hc) hl rv.ints hne fun h' tk m t' hk h1 h2 => ⟨.int _, H, I.kept hk, ⟨_, rfl⟩, q m h1 h2⟩
end MT2

/-! ### a form read: its lines taken -/
def spTGroups (C : Addr) : Sp := fun vs H Q _ => ∃ (p q l : Addr) (f : Fm) (m : Nat) (g gd : V), vs = [.ref p, .ref q] ∧ FSt C f m H p l 0 g gd ∧ F92 f m ∧ H q = some (.lst (f.groups.map V.str)) ∧ ∀ (g' : V) H', FSt C f m H' p l 1 g' gd → But2 p l H H' → Q (.bl true) H'
def spTRow (C : Addr) : Sp := fun vs H Q _ => ∃ (p l : Addr) (v : V) (f : Fm) (m i : Nat) (g gd : V), vs = [.ref p, v] ∧ FSt C f m H p l (i + 1) g gd ∧ F92 f m ∧ (∃ h : i < f.rows.length, Tp H v (wordD f.rows[i])) ∧ ∀ H', FSt C f m H' p l (i + 2) g gd → But2 p l H H' → Q (.bl true) H'
def spTGood (C : Addr) : Sp := fun vs H Q _ => ∃ (p l : Addr) (v : V) (f : Fm) (m : Nat) (g gd : V), vs = [.ref p, v] ∧ FSt C f m H p l (m + 1) g gd ∧ F92 f m ∧ Tp H v (wordD f.good) ∧ ∀ (gd' : V) H', FSt C f m H' p l (m + 2) g gd' → But2 p l H H' → Q (.bl true) H'
theorem sc_tgroups : FnScope ["self", "groups"] ["self", "groups"] (fnScope stC_FormDraft__takes_groups) := fnScope_by (by decide +kernel)
theorem sc_trow : FnScope ["self", "row"] ["self", "row"] (fnScope stC_FormDraft__takes_row) := fnScope_by (by decide +kernel)
theorem sc_tgood : FnScope ["self", "good", "row"] ["self", "good"] (fnScope stC_FormDraft__takes_good) := fnScope_by (by decide +kernel)
theorem grp_of {f : Fm} {m : Nat} (h : F92 f m) : ∀ z ∈ f.groups, GrpOk z := fun z hz => by
  obtain ⟨a, b, c, d⟩ := h.gl z hz
  exact ⟨b, c, a, d⟩
theorem tup_isN {H : Hp} {v : V} {ds : List PyData} (h : Tp H v (.tuple ds)) : v ≠ .non := by
  obtain ⟨a, xs, rfl, _⟩ := h.tup_inv
  intro e
  cases e
section
variable {P : Program} {w : World} {K : PySem.W.Frag} {mg : Str → Option Value} {base : Heap} {f C : Addr} {fd : FuncData}
theorem met_tgroups (T : FTxt K mg C) (B : BN2 mg) (me : Meth K C "_takes_groups" f) (F : C8.Fun K "_takes_groups" "FormDraft._takes_groups" stC_FormDraft__takes_groups f fd) (b : Binds K fd ["self", "groups"] []) (Cg : Cal P w K mg base 3 "are_groups" spAreGroups []) : C8.Met P w K mg base 4 C "_takes_groups" (spTGroups C) [] := by
  refine C8.met0 T.cl me F b sc_tgroups (fun vs H Q E h => ?_) (fun cdv A outer s H vs Q E hr h => ?_)
  · obtain ⟨p, q, l, fm, m, g, gd, rfl, _⟩ := h
    rfl
  · obtain ⟨p, q, l, fm, m, g, gd, rfl, S, hf, hq, k⟩ := h
    refine ⟨_, pss_cons (ps_if (pt_not (pt_val (pe_c Cg hr (by decide) (by rfl) (pa_cons (pe_callTy call_tuple_of (by rfl) B.tuple (by decide +kernel) (pa_cons (pv 1) pa_nil)) pa_nil)))) (pss_one (ps_ret pe_bl)) pss_nil)
      (pss_cons (ps_fld (pv 0) (pe_callTy call_tuple_of (by rfl) B.tuple (by decide +kernel) (pa_cons (pv 1) pa_nil)) rfl)
      (pss_one (ps_ret pe_bl))), ?_⟩
    have gs3 := hf.g3
    have grp := grp_of hf
    have nd := hf.nd
    refine ⟨_, rfl, q, _, rfl, .inl ⟨SqL.of hq, fun t ht => ?_⟩⟩
    have s0 := same_new (o := .tup (fm.groups.map V.str)) ht
    refine ⟨.ref t, fm.groups, rfl, .tup upd_same (TpAll.map fun z _ => .str z), gs3, grp, nd, fun H1 s1 => ⟨_, rfl, iteF ?_⟩⟩
    have s01 := Same.trans s0 s1
    have S1 := S.same s01
    obtain ⟨dx, o1⟩ := S1.ob
    have npl := S1.ne
    refine ⟨_, rfl, q, _, rfl, .inl ⟨SqL.of (s01 _ _ hq), fun u hu => ?_⟩⟩
    have s2 := same_new (o := .tup (fm.groups.map V.str)) hu
    have hup : u ≠ p := Ne.symm (ne_of_none o1 hu)
    refine ⟨_, rfl, p, C, dx, _, rfl, s2 _ _ o1, T.cl, T.ng, fldF_len _ _ _, ?_⟩
    rw [fldF_pg]
    obtain ⟨us, hus, aus⟩ := S1.ls
    refine k (.ref u) _ ⟨⟨dx, upd_same⟩, ⟨us, by rw [upd_ne (Ne.symm npl)]; exact s2 _ _ hus, ?_⟩, fun z => absurd z (by decide), fun _ => .tup (by rw [upd_ne hup, upd_same]) (TpAll.map fun z _ => .str z), fun _ => S.d0 (by omega), fun z => absurd z (by have := hf.m1; omega)⟩ fun x o n n2 e => ?_
    · have q0 : fm.rows.take (1 - 1) = fm.rows.take (0 - 1) := rfl
      rw [q0]
      have e : fm.rows.take (0 - 1) = [] := List.take_zero
      rw [e] at aus ⊢
      cases aus
      exact .nil
    · rw [upd_ne n]
      exact s2 _ _ (s01 _ _ e)
theorem met_trow (T : FTxt K mg C) (B : BN2 mg) (me : Meth K C "_takes_row" f) (F : C8.Fun K "_takes_row" "FormDraft._takes_row" stC_FormDraft__takes_row f fd) (b : Binds K fd ["self", "row"] []) : C8.Met P w K mg base 1 C "_takes_row" (spTRow C) [] := by
  refine C8.met0 T.cl me F b sc_trow (fun vs H Q E h => ?_) (fun cdv A outer s H vs Q E hr h => ?_)
  · obtain ⟨p, l, v, fm, m, i, g, gd, rfl, _⟩ := h
    rfl
  · obtain ⟨p, l, v, fm, m, i, g, gd, rfl, S, hf, ⟨hi, tv⟩, k⟩ := h
    obtain ⟨tm, hM⟩ := T.ms
    refine ⟨_, pss_cons (ps_if (PW.pt (pw_or (pt_cmp (pc_isN (pv 1))) (pw_or (pt_cmpR op_ne (pe_callB call_len_seq (by rfl) B.len PySem.boot_len (pa_cons (pv 1) pa_nil)) (pe_op op_add (pe_callB call_len_seq (by rfl) B.len PySem.boot_len (pa_cons (pe_fld (pv 0) rfl) pa_nil)) pe_int) (nomark _))
        (pw_or1 (pt_cmpR op_eq (pe_callB call_len_seq (by rfl) B.len PySem.boot_len (pa_cons (pe_fld (pv 0) rfl) pa_nil)) (pe_glob (v := .int 4) (by rfl) hM ⟨_, rfl⟩) (nomark _)))))) (pss_one (ps_ret pe_bl)) pss_nil)
      (pss_cons (ps_expr (pe_bm PySem.F.plainAttrs_list PySem.F.slot_list_append PySem.F.type_list_append mt_append (pe_fld (pv 0) rfl) (pa_cons (pv 1) pa_nil)))
      (pss_one (ps_ret pe_bl))), ?_⟩
    obtain ⟨dx, o1⟩ := S.ob
    have npl := S.ne
    obtain ⟨us, hus, aus⟩ := S.ls
    obtain ⟨ga, gx, rfl, hg1, hg2⟩ := (S.g1 (by omega)).tup_inv
    have hne := tup_isN tv
    have tv0 := tv
    obtain ⟨va, rfl, hva⟩ := tv.word_inv
    have rowl := (hf.rr _ (List.getElem_mem hi)).1
    have lrow := iN_len fm.rows[i]
    have lg : gx.length = fm.groups.length := by rw [hg2.len, List.length_map]
    have rl := hf.rl
    have m4 := hf.m4
    have lu : us.length = i := by
      rw [aus.len, List.length_map, List.length_take]
      omega
    refine ⟨_, rfl, _, rfl, iteF' (decide_eq_false hne) ?_⟩
    refine ⟨_, rfl, va, _, rfl, .inr (SqT.of hva), _, rfl, p, C, dx, _, _, rfl, o1, T.cl, T.ng, fldF_groups _ _ _, ga, _, rfl, .inr (SqT.of hg1), _, _, rfl, rfl, rfl, _, rfl, iteF' ?_ ?_⟩
    · rw [lrow, lg, rowl]
      have e : decide (V.int ((fm.groups.length + 1 : Nat) : Int) = V.int ((fm.groups.length : Int) + 1)) = true := decide_eq_true rfl
      rw [e]
      rfl
    refine ⟨_, rfl, p, C, dx, _, _, rfl, o1, T.cl, T.nt, fldF_table _ _ _, l, _, rfl, .inl (SqL.of hus), rfl, _, rfl, iteF' (decide_eq_false fun z => ?_) ?_⟩
    · injection z with z
      omega
    refine ⟨_, rfl, p, C, dx, _, _, rfl, o1, T.cl, T.nt, fldF_table _ _ _, .inl ⟨rfl, _, SqL.of hus⟩, _, rfl, l, _, _, rfl, rfl, hus, low10 (by omega), ?_⟩
    have keep : TK H (upd H l (.lst (us ++ [.ref va]))) := tk_lst hus
    refine k _ ⟨⟨dx, by rw [upd_ne npl]; exact o1⟩, ⟨_, upd_same, ?_⟩, fun z => absurd z (by omega), fun _ => (S.g1 (by omega)).mono keep, fun z => S.d0 (by omega), fun z => ?_⟩ fun x o n n2 e => by rw [upd_ne n2]; exact e
    · show TpAll _ (us ++ [V.ref va]) ((fm.rows.take (i + 1)).map wordD)
      rw [List.take_add_one, List.getElem?_eq_getElem hi, List.map_append]
      exact (aus.mono keep).app (.cons (tv0.mono keep) .nil)
    · have q := S.d0 (by omega)
      omega
end

/-! ### a form read: the line of the good states taken -/
theorem max_below {ns : List Int} {M : Int} {m : Nat} (h : M ∈ ns) (hb : ∀ x ∈ ns, x < (m : Int)) : decide ((m : Int) ≤ M) = false := decide_eq_false fun z => by
  have := hb M h
  omega
section
variable {P : Program} {w : World} {K : PySem.W.Frag} {mg : Str → Option Value} {base : Heap} {f C : Addr} {fd : FuncData}
theorem met_tgood (T : FTxt K mg C) (B : BN2 mg) (Bm : mg "max" = none) (me : Meth K C "_takes_good" f) (F : C8.Fun K "_takes_good" "FormDraft._takes_good" stC_FormDraft__takes_good f fd) (b : Binds K fd ["self", "good"] []) (Ca : Cal P w K mg base 1 "ascends" spAscI []) : C8.Met P w K mg base 2 C "_takes_good" (spTGood C) [] := by
  refine C8.met0 T.cl me F b sc_tgood (fun vs H Q E h => ?_) (fun cdv A outer s H vs Q E hr h => ?_)
  · obtain ⟨p, l, v, fm, m, g, gd, rfl, _⟩ := h
    rfl
  · obtain ⟨p, l, v, fm, m, g, gd, rfl, S, hf, tv, k⟩ := h
    refine ⟨_, pss_cons (ps_if (PW.pt (pw_or (pt_cmp (pc_isN (pv 1))) (pw_or (pt_not (pt_truth (pe_fld (pv 0) rfl) (fun _ => rfl)))
        (pw_or1 (pt_not (pt_val (pe_c Ca hr (by decide) (by rfl) (pa_cons (pv 1) pa_nil)))))))) (pss_one (ps_ret pe_bl)) pss_nil)
      (pss_cons (ps_if (pt_cmpR op_ge (pe_callB (cr_max rfl) (by rfl) Bm (by decide +kernel) (pa_cons (pe_lc (own := [("row", 2)]) (g := gName 2) (tt := tYes) (te := tCB (MT2.rMaxT K) (tCons (tVar 2) tNil)) (by rfl) sc_tgood.nd (pi_list (pe_fld (pv 0) rfl)) (blkOk_by (own := [("row", 2)]) (N := ["self", "good", "row"]) (sc := fnScope stC_FormDraft__takes_good) (by decide +kernel))
          (fun _ _ _ _ _ => pg_name (i := 2) sc_tgood.nd rfl (Or.inl rfl)) (fun _ _ _ _ _ => pts_nil) (fun _ _ _ _ _ => pe_callB (MT2.cr_maxTK K rfl) (by rfl) Bm (by decide +kernel) (pa_cons (pv 2) pa_nil))) pa_nil)) (pe_callB call_len_seq (by rfl) B.len PySem.boot_len (pa_cons (pe_fld (pv 0) rfl) pa_nil)) (nomark _)) (pss_one (ps_ret pe_bl)) pss_nil)
      (pss_cons (ps_fld (pv 0) (pv 1) rfl)
      (pss_one (ps_ret pe_bl)))), ?_⟩
    obtain ⟨dx, o1⟩ := S.ob
    have npl := S.ne
    obtain ⟨us, hus, aus⟩ := S.ls
    have rl := hf.rl
    have m4 := hf.m4
    have m1 := hf.m1
    have lu : us.length = m := by
      rw [aus.len, List.length_map, List.length_take]
      omega
    have hne := tup_isN tv
    refine ⟨_, rfl, _, rfl, iteF' (decide_eq_false hne) ?_⟩
    refine ⟨_, rfl, p, C, dx, _, _, rfl, o1, T.cl, T.nt, fldF_table _ _ _, _, .inl ⟨us, SqL.of hus, rfl⟩, ?_⟩
    have hem : (!(!us.isEmpty)) = false := by
      cases us with
      | nil => exact absurd lu (by show ¬ (0 = m); omega)
      | cons q r => rfl
    refine iteF' hem ?_
    have dl := up_len hf.gp hf.gm
    refine ⟨_, rfl, v, fm.good, rfl, tv, by omega, hf.gp, fun H1 s1 => ⟨_, rfl, iteF' rfl ?_⟩⟩
    refine ⟨_, rfl, p, C, dx, _, _, rfl, s1 _ _ o1, T.cl, T.nt, fldF_table _ _ _, l, rfl, ⟨_, SqL.of (s1 _ _ hus)⟩, fun D hD => ?_⟩
    have tk : fm.rows.take (m + 1 - 1) = fm.rows := List.take_of_length_le (by omega)
    rw [tk] at aus
    refine lc_list (K := K) (a := l) (xs := us) (fun i H' => Same H1 H' ∧ ∃ ns : List Int, H' D = some (.lst (ns.map V.int)) ∧ ns.length = i ∧ ∀ x ∈ ns, x < (m : Int)) ⟨same_new hD, [], upd_same, rfl, fun x hx => by cases hx⟩ (fun i H' _ h => SqL.of (h.1 _ _ (s1 _ _ hus))) ?_ ?_
    · rintro i x H2 hi ⟨s2, ns, hL, ln, hb⟩
      have il : i < us.length := (List.getElem?_eq_some_iff.mp hi).1
      have hri : fm.rows[i]? = some fm.rows[i] := List.getElem?_eq_getElem (by omega)
      obtain ⟨v2, y1, y2⟩ := aus.at hri
      rw [hi] at y1
      cases y1
      obtain ⟨va, rfl, hva⟩ := y2.word_inv
      have rr := hf.rr _ (List.getElem_mem (show i < fm.rows.length by omega))
      refine ⟨rfl, _, rfl, va, iN fm.rows[i], rfl, SqT.of (s2 _ _ (s1 _ _ hva)), ?_, fun M hM _ => ?_⟩
      · have q := iN_len fm.rows[i]
        rw [List.length_map] at q
        omega
      · refine ⟨_, hL, ?_, Same.put s2 hD, ns ++ [M], ?_, ?_, ?_⟩
        · rw [List.length_map]
          exact low10 (by omega)
        · rw [upd_same, List.map_append]
          rfl
        · rw [List.length_append, ln]
          rfl
        · intro x hx
          rcases List.mem_append.mp hx with hx | hx
          · exact hb x hx
          · obtain rfl := List.mem_singleton.mp hx
            unfold iN at hM
            obtain ⟨y, hy, rfl⟩ := List.mem_map.mp hM
            have := rr.2 y hy
            omega
    · rintro H2 ⟨s2, ns, hL, ln, hb⟩
      refine ⟨D, ns, rfl, SqL.of hL, by omega, fun M hM _ => ?_⟩
      have s12 := Same.trans s1 s2
      refine ⟨_, rfl, p, C, dx, _, _, rfl, s12 _ _ o1, T.cl, T.nt, fldF_table _ _ _, l, _, rfl, .inl (SqL.of (s12 _ _ hus)), _, _, rfl, rfl, _, rfl, ?_⟩
      rw [lu]
      refine iteF' (max_below hM hb) ?_
      have q2 := s12 _ _ o1
      have keep : TK H2 (upd H2 p (.ins C dx (putF "good" v (fldF g l gd)))) := fun x xs e => by
        rw [upd_ne (ne_of e q2 (by intro z; cases z))]
        exact e
      refine ⟨_, rfl, _, rfl, p, C, dx, _, rfl, q2, T.cl, T.nd, fldF_len _ _ _, ?_⟩
      refine k v _ ⟨⟨dx, by rw [upd_same, fldF_pd]⟩, ⟨us, by rw [upd_ne (Ne.symm npl)]; exact s12 _ _ hus, ?_⟩, fun z => absurd z (by omega), fun _ => ((S.g1 (by omega)).mono (Same.tk s12)).mono keep, fun z => absurd z (by omega), fun _ => (tv.mono (Same.tk s12)).mono keep⟩ fun x o n n2 e => ?_
      · have tk2 : fm.rows.take (m + 2 - 1) = fm.rows := List.take_of_length_le (by omega)
        rw [tk2]
        exact (aus.mono (Same.tk s12)).mono keep
      · rw [upd_ne n]
        exact s12 _ _ e
end

/-! ### a form read: a line taken -/
def spFTakes (C : Addr) : Sp := fun vs H Q _ => ∃ (p q l : Addr) (f : Fm) (m i : Nat) (r : Rc) (g gd : V), vs = [.ref p, .ref q] ∧ FSt C f m H p l i g gd ∧ F92 f m ∧ (fR f)[i]? = some r ∧ H q = some (.lst (strsOf r)) ∧ ∀ (g' gd' : V) H', FSt C f m H' p l (i + 1) g' gd' → But2 p l H H' → Q (.bl true) H'
theorem sc_ftakes : FnScope ["self", "parts"] ["self", "parts"] (fnScope stC_FormDraft_takes) := fnScope_by (by decide +kernel)
theorem fR_at {f : Fm} {m i : Nat} {r : Rc} (hf : F92 f m) (h : (fR f)[i]? = some r) : (i = 0 ∧ r = gR f) ∨ (∃ j, ∃ hj : j < f.rows.length, i = j + 1 ∧ r = sR f.rows[j]) ∨ (i = m + 1 ∧ r = dR f) := by
  have rl := hf.rl
  unfold fR at h
  cases i with
  | zero => exact .inl ⟨rfl, (Option.some.inj h).symm⟩
  | succ j =>
    rw [List.getElem?_cons_succ] at h
    by_cases hj : j < f.rows.length
    · rw [List.getElem?_append_left (by rw [List.length_map]; exact hj), List.getElem?_map, List.getElem?_eq_getElem hj] at h
      exact .inr (.inl ⟨j, hj, rfl, (Option.some.inj h).symm⟩)
    · rw [List.getElem?_append_right (by rw [List.length_map]; omega), List.length_map] at h
      have hlt := (List.getElem?_eq_some_iff.mp h).1
      rw [List.length_singleton] at hlt
      have e : j - f.rows.length = 0 := by omega
      rw [e] at h
      exact .inr (.inr ⟨by omega, (Option.some.inj h).symm⟩)
theorem cut_parts {z : Str} {r : Rc} : cutV (strsOf (.s z :: r)) (some 1) none = (r.map strP).map V.str :=
  cut_drop (strsOf (.s z :: r)) 1 (by unfold strsOf; rw [List.length_map, List.length_map, List.length_cons]; omega)
theorem grp_strs (l : List Str) : (l.map Pt.s).map strP = l := by
  rw [List.map_map]
  exact (List.map_congr_left (fun z _ => rfl : ∀ z ∈ l, (strP ∘ Pt.s) z = id z)).trans (List.map_id l)
theorem num_strs (l : List Nat) : (l.map Pt.b).map strP = l.map fun i => strP (.b i) := by
  rw [List.map_map]
  rfl
section
variable {P : Program} {w : World} {K : PySem.W.Frag} {mg : Str → Option Value} {base : Heap} {f C : Addr} {fd : FuncData}
theorem met_ftakes (T : FTxt K mg C) (B : BN2 mg) (me : Meth K C "takes" f) (F : C8.Fun K "takes" "FormDraft.takes" stC_FormDraft_takes f fd) (b : Binds K fd ["self", "parts"] []) (Cn : Cal P w K mg base 1 "_numbers_of" spNumsOf []) (Mg : C8.Met P w K mg base 4 C "_takes_groups" (spTGroups C) []) (Mr : C8.Met P w K mg base 1 C "_takes_row" (spTRow C) []) (Md : C8.Met P w K mg base 2 C "_takes_good" (spTGood C) []) : C8.Met P w K mg base 5 C "takes" (spFTakes C) [] := by
  refine C8.met0 T.cl me F b sc_ftakes (fun vs H Q E h => ?_) (fun cdv A outer s H vs Q E hr h => ?_)
  · obtain ⟨p, q, l, fm, m, i, r, g, gd, rfl, _⟩ := h
    rfl
  · obtain ⟨p, q, l, fm, m, i, r, g, gd, rfl, S, hf, hir, hq, k⟩ := h
    obtain ⟨tm, hM⟩ := T.ms
    refine ⟨_, pss_cons (ps_if (pt_cmp (pc_isN (pe_fld (pv 0) rfl))) (pss_one (ps_ret (pe_and (pe_cmpR op_eq (pe_ix ix_list (pv 1) pe_int (fun _ _ => rfl)) pe_str (nomark _)) (pe_one (C8.pe_mt Mg hr (by decide) (pv 0) (pa_cons (pe_slice sl_list (pv 1) (po_some pe_int) po_none) pa_nil)))))) pss_nil)
      (pss_cons (ps_if (pt_cmp (pc_notN (pe_fld (pv 0) rfl))) (pss_one (ps_ret pe_bl)) pss_nil)
      (pss_cons (ps_if (pt_cmpR op_eq (pe_ix ix_list (pv 1) pe_int (fun _ _ => rfl)) pe_str (nomark _)) (pss_one (ps_ret (C8.pe_mt Mr hr (by decide) (pv 0) (pa_cons (pe_c Cn hr (by decide) (by rfl) (pa_cons (pe_slice sl_list (pv 1) (po_some pe_int) po_none) (pa_cons (pe_glob (v := .int 4) (by rfl) hM ⟨_, rfl⟩) pa_nil))) pa_nil)))) pss_nil)
      (pss_one (ps_ret (pe_and (pe_cmpR op_eq (pe_ix ix_list (pv 1) pe_int (fun _ _ => rfl)) pe_str (nomark _)) (pe_one (C8.pe_mt Md hr (by decide) (pv 0) (pa_cons (pe_c Cn hr (by decide) (by rfl) (pa_cons (pe_slice sl_list (pv 1) (po_some pe_int) po_none) (pa_cons (pe_callB call_len_seq (by rfl) B.len PySem.boot_len (pa_cons (pe_fld (pv 0) rfl) pa_nil)) pa_nil))) pa_nil)))))))), ?_⟩
    obtain ⟨dx, o1⟩ := S.ob
    have rl := hf.rl
    have m4 := hf.m4
    have m1 := hf.m1
    refine ⟨_, rfl, p, C, dx, _, _, rfl, o1, T.cl, T.ng, fldF_groups _ _ _, _, rfl, ?_⟩
    rcases fR_at hf hir with ⟨rfl, rfl⟩ | ⟨j, hj, rfl, rfl⟩ | ⟨rfl, rfl⟩
    · refine iteT' (decide_eq_true (S.g0 rfl)) ?_
      refine ⟨_, rfl, q, _, _, V.str "groups", rfl, rfl, SqL.of hq, atI_nat (j := 0) rfl, rfl, _, rfl, iteT' (decide_eq_true rfl) ?_⟩
      refine ⟨_, rfl, p, dx, _, rfl, o1, fldF_no _ _ _ (by decide +kernel) (by decide +kernel) (by decide +kernel), _, rfl, 1, rfl, ?_⟩
      unfold tNoPart
      refine ⟨q, _, rfl, SqL.of hq, fun t1 ht1 => ?_⟩
      have s0 := same_new (o := .lst (cutV (strsOf (gR fm)) (some 1) none)) ht1
      refine ⟨p, t1, l, fm, m, g, gd, rfl, S.same s0, hf, ?_, fun g' H' S' b' => k g' gd H' S' ((But2.of s0).trans b')⟩
      rw [upd_same]
      refine congrArg (fun z => some (HO.lst z)) ((cut_parts (z := "groups") (r := fm.groups.map Pt.s)).trans ?_)
      rw [grp_strs]
    · have hg := S.g1 (by omega)
      refine iteF' (decide_eq_false (tup_isN hg)) ?_
      refine ⟨_, rfl, p, C, dx, _, _, rfl, o1, T.cl, T.nd, fldF_good _ _ _, _, rfl, iteF' ?_ ?_⟩
      · rw [S.d0 (by omega)]
        rfl
      refine ⟨_, rfl, q, _, _, V.str "state", rfl, rfl, SqL.of hq, atI_nat (j := 0) rfl, rfl, _, rfl, iteT' (decide_eq_true rfl) ?_⟩
      refine ⟨_, rfl, p, dx, _, rfl, o1, fldF_no _ _ _ (by decide +kernel) (by decide +kernel) (by decide +kernel), _, rfl, 1, rfl, ?_⟩
      unfold tNoPart
      refine ⟨q, _, rfl, SqL.of hq, fun t1 ht1 => ?_⟩
      have s0 := same_new (o := .lst (cutV (strsOf (sR fm.rows[j])) (some 1) none)) ht1
      have rr := hf.rr _ (List.getElem_mem hj)
      have g3 := hf.g3
      refine ⟨t1, fm.rows[j], 4, rfl, ?_, by decide, by omega, fun x hx => by have := rr.2 x hx; omega, fun v H1 s1 tv => ?_⟩
      · rw [upd_same]
        exact congrArg (fun z => some (HO.lst z)) ((cut_parts (z := "state") (r := fm.rows[j].map Pt.b)).trans (by rw [num_strs]))
      have s01 := Same.trans s0 s1
      exact ⟨p, l, v, fm, m, j, g, gd, rfl, S.same s01, hf, ⟨hj, tv⟩, fun H' S' b' => k g gd H' S' ((But2.of s01).trans b')⟩
    · have hg := S.g1 (by omega)
      refine iteF' (decide_eq_false (tup_isN hg)) ?_
      refine ⟨_, rfl, p, C, dx, _, _, rfl, o1, T.cl, T.nd, fldF_good _ _ _, _, rfl, iteF' ?_ ?_⟩
      · rw [S.d0 (by omega)]
        rfl
      refine ⟨_, rfl, q, _, _, V.str "good", rfl, rfl, SqL.of hq, atI_nat (j := 0) rfl, rfl, _, rfl, iteF' (decide_eq_false (by decide +kernel)) ?_⟩
      refine ⟨_, rfl, q, _, _, V.str "good", rfl, rfl, SqL.of hq, atI_nat (j := 0) rfl, rfl, _, rfl, iteT' (decide_eq_true rfl) ?_⟩
      refine ⟨_, rfl, p, dx, _, rfl, o1, fldF_no _ _ _ (by decide +kernel) (by decide +kernel) (by decide +kernel), _, rfl, 1, rfl, ?_⟩
      unfold tNoPart
      refine ⟨q, _, rfl, SqL.of hq, fun t1 ht1 => ?_⟩
      have s0 := same_new (o := .lst (cutV (strsOf (dR fm)) (some 1) none)) ht1
      obtain ⟨us, hus, aus⟩ := S.ls
      have lu : us.length = m := by
        rw [aus.len, List.length_map, List.length_take]
        omega
      have dl := up_len hf.gp hf.gm
      refine ⟨_, rfl, p, C, dx, _, _, rfl, s0 _ _ o1, T.cl, T.nt, fldF_table _ _ _, l, _, rfl, .inl (SqL.of (s0 _ _ hus)), ?_⟩
      refine ⟨t1, fm.good, m, by rw [lu]; rfl, ?_, by omega, by omega, hf.gm, fun v H1 s1 tv => ?_⟩
      · rw [upd_same]
        exact congrArg (fun z => some (HO.lst z)) ((cut_parts (z := "good") (r := fm.good.map Pt.b)).trans (by rw [num_strs]))
      have s01 := Same.trans s0 s1
      exact ⟨p, l, v, fm, m, g, gd, rfl, S.same s01, hf, tv, fun gd' H' S' b' => k g gd' H' S' ((But2.of s01).trans b')⟩
end

/-! ### a form read: the lines -/
def spReadF (C : Addr) : Sp := fun vs H Q _ => ∃ (p l : Addr) (f : Fm) (m : Nat) (g gd : V), vs = [.str (allT (fR f)), .ref p] ∧ FSt C f m H p l 0 g gd ∧ F92 f m ∧ ∀ (g' gd' : V) H', FSt C f m H' p l (m + 2) g' gd' → But2 p l H H' → Q .non H'
theorem fR_len {f : Fm} {m : Nat} (h : F92 f m) : (fR f).length = m + 2 := by
  unfold fR
  rw [List.length_cons, List.length_append, List.length_map, List.length_singleton, h.rl]
theorem fR_ne {f : Fm} {r : Rc} (h : r ∈ fR f) : r ≠ [] := by
  rcases List.mem_cons.mp h with rfl | h
  · intro e; cases e
  rcases List.mem_append.mp h with h | h
  · obtain ⟨row, _, rfl⟩ := List.mem_map.mp h
    intro e; cases e
  · rw [List.mem_singleton.mp h]
    intro e; cases e
section
variable {P : Program} {w : World} {K : PySem.W.Frag} {mg : Str → Option Value} {base : Heap} {f C : Addr} {fd : FuncData}
theorem cal_readF (F : C8.Def K mg "_read" st_read f fd) (b : Binds K fd ["text", "draft"] []) (Be : mg "enumerate" = none) (Mt : C8.Met P w K mg base 5 C "takes" (spFTakes C) []) (Mw : C8.Met P w K mg base 1 C "is_whole" (spFWhole C) []) : Cal P w K mg base 6 "_read" (spReadF C) [] := by
  refine cal0 F b .nil sc_read (fun vs H Q E h => ?_) (fun cdv A outer s H vs Q E hr h => ?_)
  · obtain ⟨p, l, fm, m, g, gd, rfl, _⟩ := h
    rfl
  · obtain ⟨p, l, fm, m, g, gd, rfl, S, hf, k⟩ := h
    refine ⟨_, pss_cons (ps_set (i := 2) sc_read.nd rfl (Or.inl rfl) (pe_split (pv 0) pe_str))
      (pss_cons (ps_for PassesOwn.never rfl (pi_enum rfl Be (pa_cons (pe_slice sl_list (pv 2) po_none (po_some (pe_un un_neg pe_int))) pa_nil)) (pg_tup rfl (pgs_cons (pg_name (i := 3) sc_read.nd rfl (Or.inl rfl)) (pgs_cons (pg_name (i := 4) sc_read.nd rfl (Or.inl rfl)) pgs_nil)))
        (pss_one (ps_if (pt_not (pt_val (C8.pe_mt Mt hr (by decide) (pv 1) (pa_cons (pe_split (pv 4) pe_str) pa_nil)))) (pss_one ps_never) pss_nil)))
      (pss_one (ps_if (PW.pt (pw_or (pt_cmpR op_ne (pe_ix ix_list (pv 2) (pe_un un_neg pe_int) (fun _ _ => rfl)) pe_str (nomark _)) (pw_or1 (pt_not (pt_val (C8.pe_mt0 Mw hr (by decide) (pv 1))))))) (pss_one ps_never) pss_nil))), ?_⟩
    have lines := f_lines hf
    have pts := f_pts hf
    have rlen := fR_len hf
    have m4 := hf.m4
    have tl := allT_len _ lines
    have sp := lines_split pts
    have e1 : ("\n" : Str).length = 1 := by decide
    have nel : ∀ r ∈ fR fm, r ≠ [] := fun r h => fR_ne h
    obtain ⟨us0, hus0, _⟩ := S.ls
    obtain ⟨dx0, o0⟩ := S.ob
    generalize hR : fR fm = rs at lines pts rlen tl sp nel ⊢
    refine ⟨_, rfl, ⟨_, rfl⟩, _, _, rfl, rfl, by decide, Nat.le_trans (show _ ≤ 6000000 by omega) (by decide), fun l0 hl0 => ?_⟩
    rw [sp, List.map_append]
    have s0 := same_new (o := .lst (((rs.map lnT).map V.str) ++ ([("" : Str)].map V.str))) hl0
    have h0 : upd H l0 (.lst (((rs.map lnT).map V.str) ++ ([("" : Str)].map V.str))) l0 = some (.lst (((rs.map lnT).map V.str) ++ [V.str ""])) := upd_same
    have S0 := S.same s0
    have nl0 : l0 ≠ l := Ne.symm (ne_of_none hus0 hl0)
    have np0 : l0 ≠ p := Ne.symm (ne_of_none o0 hl0)
    generalize upd H l0 (.lst (((rs.map lnT).map V.str) ++ ([("" : Str)].map V.str))) = H0 at s0 h0 S0 ⊢
    refine ⟨_, rfl, ?_⟩
    unfold tNoPart
    refine ⟨_, rfl, _, rfl, l0, _, rfl, SqL.of h0, fun l1 hl1 => ?_⟩
    have s1 := same_new (o := .lst (cutV (((rs.map lnT).map V.str) ++ [V.str ""]) none (some (-1)))) hl1
    have h1 : upd H0 l1 (.lst (cutV (((rs.map lnT).map V.str) ++ [V.str ""]) none (some (-1)))) l1 = some (.lst ((rs.map lnT).map V.str)) := by rw [upd_same, cut_last]
    have S1 := S0.same s1
    have h01 := s1 _ _ h0
    have nl1 : l1 ≠ l := Ne.symm (ne_of_none (s0 _ _ hus0) hl1)
    have np1 : l1 ≠ p := Ne.symm (ne_of_none (s0 _ _ o0) hl1)
    generalize upd H0 l1 (.lst (cutV (((rs.map lnT).map V.str) ++ [V.str ""]) none (some (-1)))) = H1 at s1 h1 S1 h01 ⊢
    have lx : ((rs.map lnT).map V.str).length = rs.length := by rw [List.length_map, List.length_map]
    refine ⟨l1, _, rfl, SqL.of h1, for_enumL (K := K) (a := l1) (xs := (rs.map lnT).map V.str) (fun i σ H' => (∃ v3 v4 : Option V, σ = [some (.str (allT rs)), some (.ref p), some (.ref l0), v3, v4]) ∧ (∃ g' gd', FSt C fm m H' p l i g' gd') ∧ But2 p l H1 H')
      ⟨⟨_, _, rfl⟩, ⟨_, _, S1⟩, fun _ _ _ _ e => e⟩ (fun i σ H' h => SqL.of (h.2.2 _ _ np1 nl1 h1)) ?_ ?_⟩
    · rintro i x T σ H2 hi ⟨⟨v3, v4, rfl⟩, ⟨g2, gd2, S2⟩, b2⟩ hT
      have ilt : i < rs.length := by
        have q := (List.getElem?_eq_some_iff.mp hi).1
        omega
      have hri := List.getElem?_eq_getElem ilt
      have memR := List.getElem_mem ilt
      generalize rs[i] = r at hri memR
      obtain rfl : x = V.str (lnT r) := by
        rw [List.getElem?_map, List.getElem?_map, hri] at hi
        exact (Option.some.inj hi).symm
      have sT := same_new (o := .tup [.int (i : Nat), V.str (lnT r)]) hT
      have hTT : upd H2 T (.tup [.int (i : Nat), V.str (lnT r)]) T = some (.tup [.int (i : Nat), V.str (lnT r)]) := upd_same
      have S3 := S2.same sT
      have b3 := b2.trans (But2.of (p := p) (l := l) sT)
      generalize upd H2 T (.tup [.int (i : Nat), V.str (lnT r)]) = H3 at sT hTT S3 b3 ⊢
      obtain ⟨dx, o3⟩ := S3.ob
      have ps := parts_split (r := r) (nel _ memR) (pts _ memR)
      have lnl : (lnT r).length ≤ 2000 := by
        have q := lineT_len (lines _ memR).1
        have q2 := (lines _ memR).2
        have q3 : (lineT r).length = (lnT r).length + ("\n" : Str).length := Str.length_append ..
        omega
      refine ⟨T, _, rfl, SqT.of hTT, rfl, _, _, rfl, _, _, rfl, rfl, ?_⟩
      refine ⟨_, rfl, p, dx, _, rfl, o3, fldF_no _ _ _ (by decide +kernel) (by decide +kernel) (by decide +kernel), _, rfl, ⟨_, rfl⟩, _, _, rfl, rfl, by decide, Nat.le_trans (show _ ≤ 6000000 by omega) (by decide), fun q hq => ?_⟩
      rw [ps]
      have sq := same_new (o := .lst ((r.map strP).map V.str)) hq
      refine ⟨p, q, l, fm, m, i, r, g2, gd2, rfl, S3.same sq, hf, by rw [hR]; exact hri, upd_same, fun g3 gd3 H4 S4 b4 => ⟨_, rfl, iteF ?_⟩⟩
      exact ⟨⟨_, _, rfl⟩, ⟨g3, gd3, S4⟩, b3.trans ((But2.of (p := p) (l := l) sq).trans b4)⟩
    · rintro σ H2 ⟨⟨v3, v4, rfl⟩, ⟨g2, gd2, S2⟩, b2⟩
      rw [lx, rlen] at S2
      obtain ⟨dx, o2⟩ := S2.ob
      have h02 := b2 _ _ np0 nl0 h01
      refine ⟨_, rfl, _, rfl, l0, _, _, V.str "", rfl, rfl, SqL.of h02, ?_, rfl, _, rfl, iteF' ?_ ?_⟩
      · exact lastI _ _
      · show (!decide (V.str "" = V.str "")) = false
        rw [decide_eq_true rfl]
        rfl
      · refine ⟨_, rfl, p, dx, _, rfl, o2, fldF_no _ _ _ (by decide +kernel) (by decide +kernel) (by decide +kernel), p, l, dx, g2, gd2, rfl, o2, tup_isN (S2.d1 rfl), _, rfl, iteF ?_⟩
        exact k g2 gd2 _ S2 ((But2.of (p := p) (l := l) (Same.trans s0 s1)).trans b2)
end

/-! ### a form read: from a text -/
def spPForm : Sp := fun vs H Q _ => ∃ (f : Fm) (m : Nat), vs = [.str (allT (fR f))] ∧ F92 f m ∧ ∀ (v : V) H', Same H H' → Tp H' v f.d → Q v H'
theorem sc_pform : FnScope ["text", "draft"] ["text"] (fnScope st_parse_form_) := fnScope_by (by decide +kernel)
section
variable {P : Program} {w : World} {K : PySem.W.Frag} {mg : Str → Option Value} {base : Heap} {f C : Addr} {fd : FuncData}
theorem cal_pform (F : C8.Def K mg "parse_form" st_parse_form_ f fd) (b : Binds K fd ["text"] []) (Mk0 : C8.Mak P w K mg base 1 "FormDraft" C (spFInit C) []) (Cr : Cal P w K mg base 6 "_read" (spReadF C) []) (Mm : C8.Met P w K mg base 1 C "made" (spFMade C) []) : Cal P w K mg base 7 "parse_form" spPForm [] := by
  refine cal0 F b .nil sc_pform (fun vs H Q E h => ?_) (fun cdv A outer s H vs Q E hr h => ?_)
  · obtain ⟨fm, m, rfl, _⟩ := h
    rfl
  · obtain ⟨fm, m, rfl, hf, k⟩ := h
    obtain ⟨fI, fdI, psI, dsI, M, FI, hm, bI, dI⟩ := Mk0.ex
    refine ⟨_, pss_cons (ps_set (i := 1) sc_pform.nd rfl (Or.inl rfl) (pe_make0 M FI (hr.mono (by decide)) rfl hm bI dI pass0))
      (pss_cons (ps_expr (pe_c Cr hr (by decide) (by rfl) (pa_cons (pv 0) (pa_cons (pv 1) pa_nil))))
      (pss_one (ps_ret (C8.pe_mt0 Mm hr (by decide) (pv 1))))), ?_⟩
    intro x dx nx ndx nex
    refine ⟨x, dx, rfl, upd_same, fun l H1 hl o1 hL1 b1 => ⟨rfl, ?_⟩⟩
    have s0 : Same H (upd (upd H dx (.own x)) x (.ins C dx [])) := fun b o e => by
      rw [upd_ne (ne_of_none e nx), upd_ne (ne_of_none e ndx)]
      exact e
    have s1 : Same H H1 := fun b o e => b1 _ _ (ne_of_none e nx) (s0 _ _ e)
    have l0 : H l = none := Same.free s0 hl
    have S1 : FSt C fm m H1 x l 0 .non .non := ⟨⟨dx, o1⟩, ⟨[], hL1, .nil⟩, fun _ => rfl, fun z => absurd z (by omega), fun _ => rfl, fun z => absurd z (by omega)⟩
    refine ⟨_, rfl, _, rfl, x, l, fm, m, .non, .non, rfl, S1, hf, fun g2 gd2 H2 S2 b2 => ?_⟩
    have s2 : Same H H2 := fun b o e => b2 _ _ (ne_of_none e nx) (ne_of_none e l0) (s1 _ _ e)
    obtain ⟨dx2, o2⟩ := S2.ob
    have hl2 := S2.ls
    have tk2 : fm.rows.take (m + 2 - 1) = fm.rows := List.take_of_length_le (by have := hf.rl; omega)
    rw [tk2] at hl2
    exact ⟨_, rfl, x, dx2, _, rfl, o2, fldF_no _ _ _ (by decide +kernel) (by decide +kernel) (by decide +kernel), x, l, dx2, fm, g2, gd2, rfl, o2, hl2, S2.g1 (by omega), S2.d1 rfl, fun v H3 s3 tv => k v _ (Same.trans s2 s3) tv⟩
end

/-! ### a text and a tuple, some thousand times -/
def repS (z : Str) (n : Nat) : Str := ⟨(List.replicate n z.cps).foldl (· ++ ·) #[]⟩
theorem foldS_list (a : Array Nat) : ∀ (n : Nat) (acc : Array Nat), ((List.replicate n a).foldl (· ++ ·) acc).toList = acc.toList ++ (List.replicate n a.toList).flatten
  | 0, acc => by
    show acc.toList = acc.toList ++ []
    rw [List.append_nil]
  | n + 1, acc => by
    rw [List.replicate_succ, List.foldl_cons, foldS_list a n, Array.toList_append, List.replicate_succ, List.flatten_cons, List.append_assoc]
theorem repS_list (z : Str) (n : Nat) : (repS z n).cps.toList = (List.replicate n z.cps.toList).flatten := foldS_list z.cps n #[]
theorem flat_rep_len {α : Type} (l : List α) : ∀ n, (List.replicate n l).flatten.length = n * l.length
  | 0 => by rw [Nat.zero_mul]; rfl
  | n + 1 => by
    rw [List.replicate_succ, List.flatten_cons, List.length_append, flat_rep_len l n, Nat.succ_mul]
    omega
theorem repS_len (z : Str) (n : Nat) : (repS z n).length = n * z.length := by
  have q := congrArg List.length (repS_list z n)
  rw [flat_rep_len, Array.length_toList, Array.length_toList] at q
  exact q
def rMulW : R2 := fun x y H Q => ∃ (z : Str) (n : Nat), x = .str z ∧ y = .int n ∧ 2 ≤ n ∧ n ≤ 9000 ∧ 1 ≤ z.length ∧ z.length ≤ 100 ∧ Q (.str (repS z n)) H
def rRepW : R2 := fun x y H Q => ∃ (l : Addr) (k : Nat) (v : V), x = .ref l ∧ y = .int k ∧ H l = some (.tup [v]) ∧ 2 ≤ k ∧ k ≤ 9000 ∧ ∀ p, H p = none → Q (.ref p) (upd H p (.tup (List.replicate k v)))
theorem flat_one {α : Type} (v : α) : ∀ n, (List.replicate n [v]).flatten = List.replicate n v
  | 0 => rfl
  | n + 1 => by
    rw [List.replicate_succ, List.flatten_cons, flat_one v n, List.replicate_succ]
    rfl
section
open PySem.Spec PyProof.Rows
theorem op_mulW2 {X : Cx} : OpR X (binaryOp .Mult) rMulW := by
  intro pins s σ H x y v u Q I rx ry given
  obtain ⟨z, n, rfl, rfl, n2, big, z1, z2, q⟩ := given
  obtain ⟨t, rfl⟩ := rx
  obtain ⟨t2, rfl⟩ := ry
  have mm : n * z.length ≤ 9000 * 100 := Nat.mul_le_mul big z2
  have tn : z.length * ((n : Nat) : Int).toNat = n * z.length := by rw [Int.toNat_natCast, Nat.mul_comm]
  refine PySem.P.mul_str ?_ (fun _ _ => ?_) (fun _ _ => ?_) ?_
  · rw [decide_eq_false (by omega), decide_eq_false (by omega)]
    rfl
  · have h1 : (z.length : Int) ≤ (2 ^ 63 - 1) / (n : Int) := (Int.le_ediv_iff_mul_le (by omega)).mpr (by
      have e : ((z.length : Nat) : Int) * (n : Int) = ((n * z.length : Nat) : Int) := by rw [Int.natCast_mul, Int.mul_comm]
      rw [e]
      omega)
    exact Int.not_lt.mpr h1
  · unfold Builtin.Str.tooLong
    rw [tn]
    exact decide_eq_false (Nat.not_lt.mpr (Nat.le_trans mm (by decide)))
  · have e1 : ¬ (n : Int) < 1 := by omega
    have e2 : ((n : Int) == 1 || z.length == 0) = false := by
      rw [Bool.or_eq_false_iff]
      exact ⟨beq_eq_false_iff_ne.mpr (by omega), beq_eq_false_iff_ne.mpr (by omega)⟩
    rw [if_neg e1, if_neg (by rw [e2]; exact Bool.false_ne_true), Int.toNat_natCast]
    refine ⟨?_, .str _, H, I.tok _, ⟨_, rfl⟩, q⟩
    have q2 := repS_len z n
    show (repS z n).length ≤ sizeLine
    rw [q2]
    exact Nat.le_trans mm (by decide)
theorem op_repW {X : Cx} : OpR X (binaryOp .Mult) rRepW := by
  intro pins s σ H x y v u Q I rx ry h
  obtain ⟨l, k, x0, rfl, rfl, hH, k2, k9, q⟩ := h
  cases rx
  obtain ⟨t, rfl⟩ := ry
  obtain ⟨its, r, ⟨⟨cls, dd, data, sl⟩, ho, hc, n, hd⟩, hs⟩ := I.tuple (SqT.of hH)
  simp only at hc hd
  subst hc hd
  have one : its.length = 1 := r.length.symm
  have hi : its.toArray.isEmpty = false := by
    cases its with
    | nil => cases one
    | cons a b => rfl
  have hz : its.toArray.size = 1 := one
  have fl : (List.replicate ((k : Nat) : Int).toNat its).flatten.length = k := by
    rw [Int.toNat_natCast, flat_rep_len, one, Nat.mul_one]
  have c1 : (its.toArray.isEmpty || ((k : Nat) : Int) == 1) = false := by
    rw [hi, Bool.false_or]
    exact beq_eq_false_iff_ne.mpr (by omega)
  have c2 : (decide (((k : Nat) : Int) ≤ 0) || its.toArray.isEmpty) = false := by
    rw [hi, Bool.or_false]
    exact decide_eq_false (by omega)
  have c3 : ¬ ((its.toArray.size : Nat) : Int) * ((k : Nat) : Int) > (2 ^ 63 - 1) / 8 := by
    rw [hz]
    omega
  have c4 : Builtin.Tuple.tupleTooMany (((its.toArray.size : Nat) : Int) * ((k : Nat) : Int)) = false := by
    unfold Builtin.Tuple.tupleTooMany
    rw [sizeLine_eq, hz]
    exact decide_eq_false (by omega)
  have lk : k ≤ sizeLine := Nat.le_trans k9 (by decide)
  refine wpAny_binaryOp_repeat_ref (T := "tuple") (U := "int") (by decide) ⟨_, ho, rfl⟩ (fun s' => typeIs_int s' k t) noFill_tuple_mul F.fills_int_mul F.slot_int_rmul repeat_tuple F.slot_int_index.lookup
    (call_meets F.slot_int_rmul (typeIs_int s k t) F.entry_int_rmul (F.args_int_rmul_2 _ _) (int_rmul_tuple k t l its.toArray n dd sl)
      ⟨ho, rfl, ⟨_, ho, rfl⟩, call_meets F.slot_tuple_mul ⟨_, ho, rfl⟩ F.entry_tuple_mul (F.args_tuple_mul_2 _ _) (tuple_mulW l its.toArray n dd sl k t (by rw [decide_eq_false (by omega), decide_eq_false (by omega)] <;> rfl) c1 c2 c3 c4 (by rw [size_rep, List.size_toArray, fl]; exact lk)) ⟨ho, ?_⟩⟩)
  rw [size_rep]
  have rr := r.rep ((k : Nat) : Int).toNat
  rw [Int.toNat_natCast, flat_one] at rr
  refine ⟨.ref s.heap.objs.size, _, I.laid (t' := s.toks) (o := .tup (List.replicate k x0)) (fun b ob q => Heap.get?_push_of_some _ q) (Nat.le_refl _) ?_, rfl, q _ (I.hok.fresh (Nat.le_refl _))⟩
  rw [Int.toNat_natCast]
  exact ⟨by rw [List.length_replicate]; exact lk, _, rr, IsTup.new _ _⟩
end
theorem words_rep (n : Nat) : repS "word\n" n = allT ((List.replicate n ([] : List Nat)).map wR) := by
  refine str_cps ?_
  rw [repS_list, allT_cps, List.map_replicate, List.flatMap_replicate]
  rfl

/-! ### words and forms shown -/
theorem shap92 {k n : Nat} {d : PyData} (h : Neat k n d) (hk : k ≤ 60) : SeqAt.shaped d = true := by
  unfold SeqAt.shaped
  have q := h.dep
  rw [h.lay, decide_eq_true (show d.depth ≤ 64 by omega)]
  rfl
theorem neat_word92 {ns : List Nat} (h : ∀ x ∈ ns, x < 1000000) : Neat 1 (ns.length * 41) (wordD ns) := by
  have q : NeatAll 0 ((iN ns).length * (40 + 1)) ((iN ns).map PyData.int) := neatAll_map fun x hx => neat_int (by
    unfold iN at hx
    obtain ⟨y, hy, rfl⟩ := List.mem_map.mp hx
    have := h y hy
    show ((y : Nat) : Int).natAbs < 10 ^ 9
    rw [Int.natAbs_natCast]
    exact Nat.lt_trans this (by decide))
  have e : (iN ns).length = ns.length := by
    unfold iN
    rw [List.length_map]
  rw [e] at q
  exact q.tup
theorem neat_words92 {ws : List (List Nat)} (many : ws.length ≤ 5000) (h : ∀ w ∈ ws, w.length ≤ 4 ∧ ∀ x ∈ w, x < 1000000) : Neat 2 900000 (.tuple (ws.map wordD)) := by
  have q : NeatAll 1 (ws.length * (164 + 1)) (ws.map wordD) := neatAll_map fun w hw => by
    obtain ⟨h1, h2⟩ := h w hw
    exact (neat_word92 h2).le (Nat.le_refl _) (by omega)
  exact q.tup.le (by decide) (by omega)
theorem neat_drawn92 {ws : List (List Nat)} (many : ws.length ≤ 1000) (h : ∀ w ∈ ws, w.length ≤ 20 ∧ ∀ x ∈ w, x < 1000000) : Neat 2 900000 (.tuple (ws.map wordD)) := by
  have q : NeatAll 1 (ws.length * (820 + 1)) (ws.map wordD) := neatAll_map fun w hw => by
    obtain ⟨h1, h2⟩ := h w hw
    exact (neat_word92 h2).le (Nat.le_refl _) (by omega)
  exact q.tup.le (by decide) (by omega)
theorem neat_f92 {f : Fm} {m : Nat} (h : F92 f m) : Neat 3 2000 f.d := by
  have m4 := h.m4
  have g3 := h.g3
  have a1 : Neat 2 100 (.tuple (f.groups.map .str)) := by
    have q : NeatAll 0 (f.groups.length * (26 + 1)) (f.groups.map PyData.str) := neatAll_map fun z hz => (neat_str (low_strOk (h.gl z hz).1)).le (Nat.le_refl _) (h.gl z hz).2.2.1
    exact q.tup.le (by decide) (by omega)
  have a2 : Neat 2 700 (.tuple (f.rows.map wordD)) := by
    have q : NeatAll 1 (f.rows.length * (164 + 1)) (f.rows.map wordD) := neatAll_map fun row hr => by
      obtain ⟨l1, l2⟩ := h.rr row hr
      exact (neat_word92 fun x hx => Nat.lt_of_lt_of_le (l2 x hx) (Nat.le_trans m4 (by decide))).le (Nat.le_refl _) (by omega)
    have rl := h.rl
    exact q.tup.le (by decide) (by omega)
  have a3 : Neat 2 170 (wordD f.good) := by
    have l2 := up_len h.gp h.gm
    exact (neat_word92 fun x hx => Nat.lt_of_lt_of_le (h.gm x hx) (Nat.le_trans m4 (by decide))).le (by decide) (by omega)
  exact (NeatAll.cons a1 (NeatAll.cons a2 (NeatAll.cons a3 neatAll_nil))).tup.le (by decide) (by decide)
theorem eqvI92 : ∀ l : List Int, PyData.eqvAll (l.map PyData.int) (l.map PyData.int) = true
  | [] => by simp only [List.map_nil, PyData.eqvAll]
  | n :: r => by simp only [List.map_cons, PyData.eqvAll, PyData.eqv, eqvI92 r, beq_self_eq_true, Bool.and_self]
theorem eqvW92 (l : List Nat) : PyData.eqv (wordD l) (wordD l) = true := by
  unfold wordD
  simp only [PyData.eqv, eqvI92]
theorem eqvR92 : ∀ l : List (List Nat), PyData.eqvAll (l.map wordD) (l.map wordD) = true
  | [] => by simp only [List.map_nil, PyData.eqvAll]
  | n :: r => by simp only [List.map_cons, PyData.eqvAll, eqvW92, eqvR92 r, Bool.and_self]
theorem eqvWs92 (l : List (List Nat)) : PyData.eqv (.tuple (l.map wordD)) (.tuple (l.map wordD)) = true := by
  simp only [PyData.eqv, eqvR92]
/-! ### tuples over tuples, made -/
def tTupT (t : TA) : TE := fun σ H Q => t σ H fun xs H1 => ∃ ds, TpAll H1 xs ds ∧ xs.length ≤ 100 ∧ ∀ (p : Addr) H', Same H1 H' → Tp H' (.ref p) (.tuple ds) → Q (.ref p) H'
section
open PySem.Spec PyProof.Rows
variable {X : Cx} {es : List Expr} {k : Nat} {pos : Pos} {t : TA}
def moreA (t : TA) : TA := fun σ H Q => ∃ Q' : List V → Hp → Prop, t σ H Q' ∧ ∀ xs H1, Q' xs H1 → Q xs H1
theorem pa_more (h : PA X es t) : PA X es (moreA t) := ⟨fun p pins s σ H Q I ⟨Q', a, b⟩ => thn (h.run p pins s σ H Q' I a) fun us s1 ⟨xs, H1, I1, r, q⟩ => ⟨xs, H1, I1, r, b _ _ q⟩⟩
theorem pe_tupT (h : PA X es t) : PE X (.Tuple es k pos) (tTupT t) :=
  ⟨fun pins s σ H Q I q => (pe_tup (pa_more h)).run pins s σ H Q I ⟨_, q, fun xs H1 ⟨ds, r, z, k⟩ => ⟨Nat.le_trans z (by decide), fun p hp => k p _ (same_new hp) (.tup upd_same (r.mono (tk_new hp)))⟩⟩⟩
end
def abcW : Str := "abcdefghijklmnopqrstuvwxyz"
def formW : Fm := ⟨[abcW], [[0, 0]], []⟩
theorem formW_ok : F92 formW 1 where
  m1 := by decide
  m4 := by decide
  g3 := by decide
  rl := rfl
  rr := by decide
  gl := by decide +kernel
  nd := by decide +kernel
  gp := List.Pairwise.nil
  gm := fun x hx => by cases hx

/-! ### the law -/
def nLaw92 : List Str := ["script", "pen", "lap", "words", "text", "form", "turn", "word"]
theorem sc_law : FnScope nLaw92 ["script"] (fnScope st_law_) := fnScope_by (by decide +kernel)
def spLaw (K : PySem.W.Frag) : Sp := fun vs H Q _ => ∃ (a : Addr) (ns : List Int), vs = [.ref a] ∧ SqL K H a (ns.map V.int) ∧ ∀ H', Q (.bl true) H'
theorem rep_nils {H : Hp} {e : Addr} (h : H e = some (.tup [])) : ∀ n, TpAll H (List.replicate n (.ref e)) ((List.replicate n ([] : List Nat)).map wordD)
  | 0 => .nil
  | n + 1 => by
    rw [List.replicate_succ, List.replicate_succ, List.map_cons]
    exact .cons (.tup h .nil) (rep_nils h n)
theorem ne92 (z : Str) : (!decide (V.str z = V.str z)) = false := by
  rw [decide_eq_true rfl]
  rfl
def rListK (K : PySem.W.Frag) : List V → Hp → VK → Prop := fun xs H Q => ∃ p ys, xs = [.ref p] ∧ (SqL K H p ys ∨ SqT K H p ys) ∧ ∀ l, H l = none → Q (.ref l) (upd H l (.lst ys))
theorem call_listK {X : Cx} (K : PySem.W.Frag) (h : X.K = K := by rfl) : CallR X (.type "list") (rListK K) := by
  subst h
  exact call_list_of
section
variable {P : Program} {w : World} {K : PySem.W.Frag} {mg : Str → Option Value} {base : Heap} {f : Addr} {fd : FuncData}
set_option maxHeartbeats 20000000 in
theorem fn_law (F : C8.Fun K "law" "law" st_law_ f fd) (B : BN2 mg) (Br : mg "repr" = none) (Cpen : Cal P w K mg base 1 "_law_pen" (spPen K) []) (Co : Cal P w K mg base 3 "_law_one_of" (spOne K) []) (Cw : Cal P w K mg base 3 "_law_word" spWord []) (Cl : Cal P w K mg base 1 "_law_line" spLine [])
    (Cf : Cal P w K mg base 3 "_law_form" spLForm []) (Ct : Cal P w K mg base 2 "_law_form_text" spFText []) (Cfw : Cal P w K mg base 2 "format_words" spFWords []) (Cff : Cal P w K mg base 2 "format_form" spFForm []) (Cpw : Cal P w K mg base 4 "parse_words" spPWords []) (Cpf : Cal P w K mg base 7 "parse_form" spPForm []) : FnG P w K mg base 8 f fd ["script"] (spLaw K) := by
  refine fnG_by F sc_law (fun vs H Q E h => ?_) (fun cdv A outer s H vs Q E gu hr h => ?_)
  · obtain ⟨a, ns, rfl, _⟩ := h
    rfl
  · obtain ⟨a, ns, rfl, hS, k⟩ := h
    refine ⟨_, pss_cons (ps_set (i := 1) sc_law.nd rfl (Or.inr rfl) (pe_c Cpen hr (by decide) (by rfl) (pa_cons (pv 0) pa_nil)))
      (pss_cons (ps_for PassesOwn.never rfl (pi_range1 rfl B.range (pa_cons pe_int pa_nil)) (pg_name (i := 2) sc_law.nd rfl (Or.inl rfl))
        (pss_cons (ps_set (i := 3) sc_law.nd rfl (Or.inl rfl) (pe_callTy call_tuple_of (by rfl) B.tuple (by decide +kernel) (pa_cons (pe_lc (own := [("turn", 6)]) (g := gName 6) (tt := tYes) (te := tCall spWord [] C8.E0 (tCons (tVar 1) (tCons (tC (.int 4)) (tCons (tC (.int 6)) tNil)))) (by rfl) sc_law.nd (pi_range1 rfl B.range (pa_cons (pe_c Co hr (by decide) (by rfl) (pa_cons (pv 1) (pa_cons (pe_lst (pa_cons pe_int (pa_cons pe_int (pa_cons pe_int (pa_cons pe_int (pa_cons pe_int pa_nil)))))) pa_nil))) pa_nil))
            (blkOk_by (own := [("turn", 6)]) (N := nLaw92) (sc := fnScope st_law_) (by decide +kernel)) (fun _ _ _ _ _ => pg_name (i := 6) sc_law.nd rfl (Or.inl rfl)) (fun _ _ _ _ _ => pts_nil)
            (fun _ _ _ _ _ => pe_c Cw hr (by decide) (by rfl) (pa_cons (pv 1) (pa_cons pe_int (pa_cons pe_int pa_nil))))) pa_nil)))
        (pss_cons (ps_set (i := 4) sc_law.nd rfl (Or.inl rfl) (pe_join pe_str (pe_lc (own := [("word", 7)]) (g := gName 7) (tt := tYes) (te := tCall spLine [] C8.E0 (tCons (tOp rCat (tLst (tCons (tC (.str "word")) tNil)) (tCB (rListK K) (tCons (tVar 7) tNil))) tNil)) (by rfl) sc_law.nd (pi_tup (pv 3))
            (blkOk_by (own := [("word", 7)]) (N := nLaw92) (sc := fnScope st_law_) (by decide +kernel)) (fun _ _ _ _ _ => pg_name (i := 7) sc_law.nd rfl (Or.inl rfl)) (fun _ _ _ _ _ => pts_nil)
            (fun _ _ _ _ _ => pe_c Cl hr (by decide) (by rfl) (pa_cons (pe_op op_cat (pe_lst (pa_cons pe_str pa_nil)) (pe_callTy (call_listK K) (by rfl) B.list (by decide +kernel) (pa_cons (pv 7) pa_nil))) pa_nil)))))
        (pss_cons (ps_if (PW.pt (pw_or (pt_cmpR op_ne (pe_c Cfw hr (by decide) (by rfl) (pa_cons (pv 3) pa_nil)) (pv 4) (nomark _)) (pw_or1 (pt_cmpR op_ne (pe_callB (call_repr gu hr.units) (by rfl) Br (by decide +kernel) (pa_cons (pe_c Cpw hr (by decide) (by rfl) (pa_cons (pv 4) pa_nil)) pa_nil)) (pe_callB (call_repr gu hr.units) (by rfl) Br (by decide +kernel) (pa_cons (pv 3) pa_nil)) (nomark _))))) (pss_one (ps_ret pe_bl)) pss_nil)
        (pss_cons (ps_set (i := 5) sc_law.nd rfl (Or.inl rfl) (pe_c Cf hr (by decide) (by rfl) (pa_cons (pv 1) pa_nil)))
        (pss_cons (ps_set (i := 4) sc_law.nd rfl (Or.inl rfl) (pe_c Ct hr (by decide) (by rfl) (pa_cons (pv 5) pa_nil)))
        (pss_one (ps_if (PW.pt (pw_or (pt_cmpR op_ne (pe_c Cff hr (by decide) (by rfl) (pa_cons (pv 5) pa_nil)) (pv 4) (nomark _)) (pw_or1 (pt_cmpR op_ne (pe_callB (call_repr gu hr.units) (by rfl) Br (by decide +kernel) (pa_cons (pe_c Cpf hr (by decide) (by rfl) (pa_cons (pv 4) pa_nil)) pa_nil)) (pe_callB (call_repr gu hr.units) (by rfl) Br (by decide +kernel) (pa_cons (pv 5) pa_nil)) (nomark _))))) (pss_one (ps_ret pe_bl)) pss_nil))))))))
      (pss_cons (ps_set (i := 5) sc_law.nd rfl (Or.inl rfl) (pe_tupT (pa_cons (pe_tupT (pa_cons pe_str pa_nil)) (pa_cons (pe_tupT (pa_cons (pe_tupT (pa_cons pe_int (pa_cons pe_int pa_nil))) pa_nil)) (pa_cons (pe_tupT pa_nil) pa_nil)))))
      (pss_cons (ps_if (pt_cmpR op_ne (pe_callB (call_repr gu hr.units) (by rfl) Br (by decide +kernel) (pa_cons (pe_c Cpf hr (by decide) (by rfl) (pa_cons (pe_c Cff hr (by decide) (by rfl) (pa_cons (pv 5) pa_nil)) pa_nil)) pa_nil)) (pe_callB (call_repr gu hr.units) (by rfl) Br (by decide +kernel) (pa_cons (pv 5) pa_nil)) (nomark _)) (pss_one (ps_ret pe_bl)) pss_nil)
      (pss_cons (ps_if (pt_cmpR (op_neD hr.units) (pe_c Cpw hr (by decide) (by rfl) (pa_cons (pe_op op_mulW2 pe_str pe_int) pa_nil)) (pe_op op_repW (pe_tup (pa_cons (pe_tup pa_nil) pa_nil)) pe_int) (nomark _)) (pss_one (ps_ret pe_bl)) pss_nil)
      (pss_one (ps_ret (pe_and (pe_cmpR op_eq (pe_c Cfw hr (by decide) (by rfl) (pa_cons (pe_tup pa_nil) pa_nil)) pe_str (nomark _)) (pe_and (pe_cmpR (op_eqD hr.units) (pe_c Cpw hr (by decide) (by rfl) (pa_cons pe_str pa_nil)) (pe_tup pa_nil) (nomark _))
        (pe_one (pe_cmpR (op_eqD hr.units) (pe_c Cpw hr (by decide) (by rfl) (pa_cons pe_str pa_nil)) (pe_tup (pa_cons (pe_tup pa_nil) (pa_cons (pe_tup (pa_cons pe_int (pa_cons pe_int pa_nil))) pa_nil))) (nomark _))))))))))), ?_⟩
    refine ⟨_, rfl, a, ns, rfl, hS, fun H1 p c s1 hP p0 => ?_⟩
    refine ⟨3, rfl, by decide, by decide, for_range (fun i σ H' => (∃ v2 v3 v4 v5 v6 v7 : Option V, σ = [some (.ref a), some (.ref p), v2, v3, v4, v5, v6, v7]) ∧ Pen H' p c) ⟨⟨_, _, _, _, _, _, rfl⟩, hP⟩ ?_ ?_⟩
    · rintro i σ H2 hi ⟨⟨v2, v3, v4, v5, v6, v7, rfl⟩, hP2⟩
      refine ⟨_, rfl, (by show 5 ≤ sizeLine; decide), fun la hla => ?_⟩
      refine ⟨p, c, hP2.new hla, .inl ⟨la, _, rfl, hP2.ne hla, SqL.of upd_same, (by show 0 < 5; decide), (by show 5 < 1000; decide), fun x H3 hx k3 => ?_⟩⟩
      obtain ⟨n, hn, rfl⟩ : ∃ n : Nat, n ≤ 200 ∧ x = .int n := by
        have hx' : x ∈ ([0, 1, 2, 5, 200] : List Nat).map fun (i : Nat) => V.int i := hx
        obtain ⟨m, h1, h2⟩ := List.mem_map.mp hx'
        refine ⟨m, ?_, h2.symm⟩
        have h3 : ∀ q ∈ ([0, 1, 2, 5, 200] : List Nat), q ≤ 200 := by decide
        exact h3 m h1
      refine ⟨_, rfl, by omega, by omega, fun D hD => ?_⟩
      have hP3 := k3.pen
      have nDp : D ≠ p := hP3.ne hD
      have en : ((n : Nat) : Int).toNat = n := rfl
      refine lc_range (lo := 0) (n := ((n : Nat) : Int).toNat) (fun i H' => Kp p c H3 H' ∧ ∃ ws : List (List Nat), LAt H' D (ws.map wordD) ∧ ws.length = i ∧ ∀ w ∈ ws, w.length ≤ 6 ∧ ∀ x ∈ w, x < 4)
        ⟨(Kp.rfl' hP3).new hD, [], ⟨[], upd_same, .nil⟩, rfl, fun w hw => by cases hw⟩ ?_ ?_
      · rintro j H4 hj ⟨k4, ws, ⟨us, hu, au⟩, lw, ok⟩
        rw [en] at hj
        refine ⟨rfl, _, rfl, p, c, 4, 6, rfl, k4.pen, by decide, by decide, by decide, fun ks t H5 wd k5 t0 hT => ?_⟩
        obtain ⟨nsw, rfl, l6, l4⟩ := iN_nat wd
        have hu5 := k5.but _ _ nDp hu
        have lu : us.length = j := by rw [au.len, List.length_map, lw]
        refine ⟨us, hu5, low10 (by omega), (k4.trans k5).put hP3 hD, ws ++ [nsw], ?_, ?_, ?_⟩
        · rw [List.map_append]
          exact LAt.push hu5 (au.mono (k5.tk k4.pen)) (tp_word hT)
        · rw [List.length_append, lw]
          rfl
        · intro w hw
          rcases List.mem_append.mp hw with hw | hw
          · exact ok w hw
          · rw [List.mem_singleton.mp hw]
            exact ⟨l6, fun x hx => by have := l4 x hx; omega⟩
      · rintro H4 ⟨k4, ws, ⟨us, hu, au⟩, lw, ok⟩
        rw [en] at lw
        refine ⟨D, _, rfl, .inl ⟨SqL.of hu, fun wt hwt => ?_⟩⟩
        have s5 := same_new (o := .tup us) hwt
        have hwt5 : upd H4 wt (.tup us) wt = some (.tup us) := upd_same
        have au5 := au.mono (Same.tk s5)
        have k5 := k4.same s5
        generalize upd H4 wt (.tup us) = H5 at s5 hwt5 au5 k5
        have tw5 : Tp H5 (.ref wt) (.tuple (ws.map wordD)) := .tup hwt5 au5
        refine ⟨⟨_, rfl⟩, _, rfl, wt, rfl, ⟨_, SqT.of hwt5⟩, fun D2 hD2 => ?_⟩
        have ul : us.length = ws.length := by rw [au5.len, List.length_map]
        have wl : ∀ w ∈ ws, LnOk (wR w) ∧ (wR w).length ≤ 30 := fun w hw => w_line ⟨Nat.le_trans (ok w hw).1 (by decide), fun x hx => Nat.lt_trans ((ok w hw).2 x hx) (by decide)⟩
        refine lc_tup (K := K) (a := wt) (xs := us) (fun i H' => Same H5 H' ∧ H' D2 = some (.lst (((ws.take i).map fun w => lineT (wR w)).map V.str))) ⟨same_new hD2, upd_same⟩ (fun i H' _ h => SqT.of (h.1 _ _ hwt5)) ?_ ?_
        · rintro j x H6 hx ⟨s6, hL6⟩
          have jl : j < ws.length := by
            have q := (List.getElem?_eq_some_iff.mp hx).1
            omega
          have hwj : ws[j]? = some ws[j] := List.getElem?_eq_getElem jl
          obtain ⟨v0, y1, y2⟩ := au5.at hwj
          rw [hx] at y1
          cases y1
          obtain ⟨va, rfl, hva⟩ := y2.word_inv
          have hva6 := s6 _ _ hva
          have mem := List.getElem_mem jl
          generalize ws[j] = wd at hwj hva hva6 mem y2
          refine ⟨rfl, (by show 1 ≤ sizeLine; decide), fun l1 hl1 => ⟨_, rfl, va, _, rfl, .inr (SqT.of (same_new hl1 _ _ hva6)), fun l2 hl2 => ?_⟩⟩
          have e0 : (V.str "word" :: (iN wd).map V.int) = (wR wd).map Pt.v := by
            unfold wR
            rw [List.map_cons, nums_v]
            rfl
          have w6 := (ok wd mem).1
          refine ⟨l1, l2, [.str "word"], (iN wd).map V.int, rfl, rfl, (by rw [upd_ne (ne_of_none upd_same hl2), upd_same]), upd_same, ?_, fun l3 hl3 => ⟨l3, wR wd, rfl, (by rw [upd_same]; exact congrArg some (congrArg HO.lst e0)), (wl wd mem).1, fun H7 s7 => ?_⟩⟩
          · have q := iN_len wd
            exact Nat.le_trans (show [V.str "word"].length + ((iN wd).map V.int).length ≤ 100 by rw [List.length_singleton]; omega) (by decide)
          have s67 := Same.trans (Same.trans (Same.trans (same_new (o := .lst [.str "word"]) hl1) (same_new (o := .lst ((iN wd).map V.int)) hl2)) (same_new (o := .lst ([V.str "word"] ++ (iN wd).map V.int)) hl3)) s7
          refine ⟨_, s67 _ _ hL6, ?_, Same.put (Same.trans s6 s67) hD2, ?_⟩
          · rw [List.length_map, List.length_map, List.length_take]
            exact low10 (by omega)
          · rw [upd_same, List.take_add_one, hwj, List.map_append, List.map_append]
            rfl
        · rintro H6 ⟨s6, hL6⟩
          rw [ul, List.take_length] at hL6
          have ej : Txt.join "" (ws.map fun w => lineT (wR w)) = allT (ws.map wR) := by
            unfold allT
            rw [List.map_map]
            rfl
          have wls : ∀ r ∈ ws.map wR, LnOk r ∧ r.length ≤ 30 := fun r hr => by
            obtain ⟨w0, hw, rfl⟩ := List.mem_map.mp hr
            exact wl w0 hw
          have tl := allT_len _ wls
          rw [List.length_map] at tl
          have jl := join_len (ws.map fun w => lineT (wR w))
          rw [ej] at jl
          have z0 : ("" : Str).length = 0 := rfl
          refine ⟨_, D2, ws.map fun w => lineT (wR w), rfl, rfl, .inl (SqL.of hL6), ?_, ?_⟩
          · rw [← jl, z0, Nat.mul_zero]
            omega
          rw [ej]
          have ok20 : ∀ w ∈ ws, w.length ≤ 20 ∧ ∀ x ∈ w, x < 1000 := fun w hw => ⟨Nat.le_trans (ok w hw).1 (by decide), fun x hx => Nat.lt_trans ((ok w hw).2 x hx) (by decide)⟩
          have ok4 : ∀ w ∈ ws, w.length ≤ 20 ∧ ∀ x ∈ w, x < 4 := fun w hw => ⟨Nat.le_trans (ok w hw).1 (by decide), (ok w hw).2⟩
          have nw : Neat 2 900000 (.tuple (ws.map wordD)) := neat_drawn92 (by omega) fun w hw => ⟨(ok20 w hw).1, fun x hx => Nat.lt_trans ((ok20 w hw).2 x hx) (by decide)⟩
          have tw6 := tw5.mono (Same.tk s6)
          refine ⟨_, rfl, .ref wt, ws, rfl, tw6, by omega, ok20, fun H7 s7 => ⟨_, rfl, rfl, _, rfl, iteF' (ne92 _) ?_⟩⟩
          refine ⟨_, rfl, ws, rfl, by omega, ok4, fun v1 H8 s8 tv1 => ⟨v1, .tuple (ws.map wordD), 2, 900000, rfl, tv1.dp, nw, by decide, by decide, ?_⟩⟩
          refine ⟨_, rfl, .ref wt, .tuple (ws.map wordD), 2, 900000, rfl, (tw6.mono (Same.tk (Same.trans s7 s8))).dp, nw, by decide, by decide, ?_⟩
          generalize (PyData.tuple (ws.map wordD)).shown = sh
          refine ⟨rfl, _, rfl, iteF' (ne92 _) ?_⟩
          have k8 := k5.same (Same.trans (Same.trans s6 s7) s8)
          refine ⟨_, rfl, p, c, rfl, k8.pen, fun fm m ft H9 hf k9 tf => ?_⟩
          refine ⟨_, rfl, .ref ft, fm, m, rfl, tf, hf, fun H10 s10 => ?_⟩
          have nf := neat_f92 hf
          refine ⟨_, rfl, .ref ft, fm, m, rfl, tf.mono (Same.tk s10), hf, fun H11 s11 => ⟨_, rfl, rfl, _, rfl, iteF' (ne92 _) ?_⟩⟩
          refine ⟨_, rfl, fm, m, rfl, hf, fun v2 H12 s12 tv2 => ⟨v2, fm.d, 3, 2000, rfl, tv2.dp, nf, by decide, by decide, ?_⟩⟩
          have s13 := Same.trans (Same.trans s10 s11) s12
          refine ⟨_, rfl, .ref ft, fm.d, 3, 2000, rfl, (tf.mono (Same.tk s13)).dp, nf, by decide, by decide, ?_⟩
          generalize fm.d.shown = sh2
          refine ⟨rfl, _, rfl, iteF' (ne92 _) ?_⟩
          exact ⟨⟨_, _, _, _, _, _, rfl⟩, (k9.same s13).pen⟩
    · rintro σ H2 ⟨⟨v2, v3, v4, v5, v6, v7, rfl⟩, hP2⟩
      refine ⟨[.str abcW], .cons (.str _) .nil, by decide, fun q1 Ha sa t1 => ?_⟩
      refine ⟨[.int 0, .int 0], .cons (.int _) (.cons (.int _) .nil), by decide, fun q2 Hb sb t2 => ⟨[wordD [0, 0]], .cons t2 .nil, (by show 1 ≤ 100; decide), fun q3 Hc sc3 t3 => ⟨[], .nil, by decide, fun q4 Hd sd t4 => ?_⟩⟩⟩
      refine ⟨[.tuple [.str abcW], .tuple [wordD [0, 0]], .tuple []], .cons (t1.mono (Same.tk (Same.trans (Same.trans sb sc3) sd))) (.cons (t3.mono (Same.tk sd)) (.cons t4 .nil)), (by show 3 ≤ 100; decide), fun q5 He se t5 => ?_⟩
      have tW : Tp He (.ref q5) formW.d := t5
      have nW := neat_f92 formW_ok
      refine ⟨_, rfl, .ref q5, formW, 1, rfl, tW, formW_ok, fun Hf sf => ⟨formW, 1, rfl, formW_ok, fun v Hg sg tv => ⟨v, formW.d, 3, 2000, rfl, tv.dp, nW, by decide, by decide, ?_⟩⟩⟩
      refine ⟨_, rfl, .ref q5, formW.d, 3, 2000, rfl, (tW.mono (Same.tk (Same.trans sf sg))).dp, nW, by decide, by decide, ?_⟩
      generalize formW.d.shown = sh3
      refine ⟨rfl, _, rfl, iteF' (ne92 _) ?_⟩
      refine ⟨"word\n", 4000, rfl, rfl, by decide, by decide, by decide, by decide, ?_⟩
      refine ⟨List.replicate 4000 [], congrArg (fun z => [V.str z]) (words_rep 4000), by rw [List.length_replicate]; decide, fun w hw => ?_, fun v4 Hh sh tv4 => ?_⟩
      · rw [List.eq_of_mem_replicate hw]
        exact ⟨by decide, fun x hx => by cases hx⟩
      refine ⟨(by show 0 ≤ sizeLine; decide), fun e0 he0 => ⟨(by show 1 ≤ sizeLine; decide), fun o0 ho0 => ⟨o0, 4000, .ref e0, rfl, rfl, upd_same, by decide, by decide, fun r hr => ?_⟩⟩⟩
      have se0 := same_new (o := .tup []) he0
      have so0 := same_new (o := .tup [.ref e0]) ho0
      have tr0 : Tp (upd (upd (upd Hh e0 (.tup [])) o0 (.tup [.ref e0])) r (.tup (List.replicate 4000 (.ref e0)))) (.ref r) (.tuple ((List.replicate 4000 ([] : List Nat)).map wordD)) := .tup upd_same ((rep_nils (so0 _ _ upd_same) 4000).mono (Same.tk (same_new hr)))
      have sr0 := Same.trans (Same.trans se0 so0) (same_new (o := .tup (List.replicate 4000 (.ref e0))) hr)
      generalize upd (upd (upd Hh e0 (.tup [])) o0 (.tup [.ref e0])) r (.tup (List.replicate 4000 (.ref e0))) = Hi at tr0 sr0 ⊢
      have tv5 := tv4.mono (Same.tk sr0)
      have s4 : SeqAt.shaped (.tuple ((List.replicate 4000 ([] : List Nat)).map wordD)) = true := shap92 (neat_words92 (by rw [List.length_replicate]; decide) fun w hw => by
        rw [List.eq_of_mem_replicate hw]
        exact ⟨by decide, fun x hx => by cases hx⟩) (by decide)
      generalize List.replicate 4000 ([] : List Nat) = wz at tr0 tv5 s4
      refine ⟨_, _, tv5.dp, tr0.dp, s4, s4, _, rfl, iteF' (by rw [eqvWs92]; rfl) ?_⟩
      clear tr0 tv5 tv4
      refine ⟨(by show 0 ≤ sizeLine; decide), fun e1 he1 => ⟨.ref e1, [], rfl, .tup upd_same .nil, by decide, fun w hw => (by cases hw), fun Hj sj => ⟨rfl, _, rfl, iteT' (decide_eq_true (congrArg V.str (by decide +kernel))) ?_⟩⟩⟩
      refine ⟨[], congrArg (fun z => [V.str z]) (by decide +kernel), by decide, fun w hw => (by cases hw), fun v6 Hk sk tv6 => ⟨(by show 0 ≤ sizeLine; decide), fun e2 he2 => ⟨.tuple (([] : List (List Nat)).map wordD), .tuple (([] : List (List Nat)).map wordD), (tv6.mono (tk_new he2)).dp, (Tp.tup upd_same .nil).dp, by decide +kernel, by decide +kernel, _, rfl, iteT' (eqvWs92 []) ?_⟩⟩⟩
      refine ⟨[[], [3, 0]], congrArg (fun z => [V.str z]) (by decide +kernel), by decide, by decide, fun v7 Hl sl7 tv7 => ⟨(by show 0 ≤ sizeLine; decide), fun e3 he3 => ⟨(by show 2 ≤ sizeLine; decide), fun e4 he4 => ⟨(by show 2 ≤ sizeLine; decide), fun e5 he5 => ?_⟩⟩⟩⟩
      have s3 := same_new (o := .tup []) he3
      have s4 := same_new (o := .tup [.int 3, .int 0]) he4
      have s5 := same_new (o := .tup [.ref e3, .ref e4]) he5
      have t3 : Tp (upd Hl e3 (.tup [])) (.ref e3) (wordD []) := .tup upd_same .nil
      have t4 : Tp (upd (upd Hl e3 (.tup [])) e4 (.tup [.int 3, .int 0])) (.ref e4) (wordD [3, 0]) := .tup upd_same (.cons (.int _) (.cons (.int _) .nil))
      have t5 : Tp (upd (upd (upd Hl e3 (.tup [])) e4 (.tup [.int 3, .int 0])) e5 (.tup [.ref e3, .ref e4])) (.ref e5) (.tuple ([[], [3, 0]].map wordD)) := .tup upd_same (.cons ((t3.mono (Same.tk s4)).mono (Same.tk s5)) (.cons (t4.mono (Same.tk s5)) .nil))
      have t7 := tv7.mono (Same.tk (Same.trans (Same.trans s3 s4) s5))
      refine ⟨_, _, t7.dp, t5.dp, by decide +kernel, by decide +kernel, ?_⟩
      rw [eqvWs92]
      exact k _
end

/-! ### what the top has written, the head -/
theorem all_mk {l : PySem.W.OpenLaw} {w : World} {K : PySem.W.Frag} {h : Heap} {mg : Str → Option Value} {fa f0 f1 f2 f3 f4 f5 f6 f7 f8 f9 f10 f11 f12 f13 f14 f15 f16 f17 f18 : Addr} (X : K.In h) (G : h.Ns mainGlobals mg) (named : mg "law" = some (.ref fa))
    {od0 an0 od1 an1 od2 an2 od3 an3 od4 an4 od5 an5 od6 an6 od7 an7 od8 an8 od9 an9 od10 an10 od11 an11 od12 an12 od13 an13 od14 an14 od15 an15 od16 an16 od17 an17 od18 an18 : Option Addr} {sl0 sl1 sl2 sl3 sl4 sl5 sl6 sl7 sl8 sl9 sl10 sl11 sl12 sl13 sl14 sl15 sl16 sl17 sl18 : Array (Option Value)} {oc0 kV0 dc0 pm0 cd0 ct0 oc1 kV1 dc1 pm1 cd1 ct1 oc2 kV2 dc2 pm2 cd2 ct2 oc3 kV3 dc3 pm3 cd3 ct3 oc4 kV4 dc4 pm4 cd4 ct4 oc5 kV5 dc5 pm5 cd5 ct5 oc6 kV6 dc6 pm6 cd6 ct6 oc7 kV7 dc7 pm7 cd7 ct7 oc8 kV8 dc8 pm8 cd8 ct8 oc9 kV9 dc9 pm9 cd9 ct9 oc10 kV10 dc10 pm10 cd10 ct10 oc11 kV11 dc11 pm11 cd11 ct11 oc12 kV12 dc12 pm12 cd12 ct12 oc13 kV13 dc13 pm13 cd13 ct13 oc14 kV14 dc14 pm14 cd14 ct14 oc15 kV15 dc15 pm15 cd15 ct15 oc16 kV16 dc16 pm16 cd16 ct16 oc17 kV17 dc17 pm17 cd17 ct17 oc18 kV18 dc18 pm18 cd18 ct18 : Value}
    (a0 : PySem.W.nsIn K mainGlobals "ascends" = some (some (.ref f0))) (l0 : K.lookup f0 = some ⟨oc0, od0, .func (PySem.W.fnOf "ascends" "ascends" (C8.fnArgs st_ascends_) (fnBody st_ascends_) (fnScope st_ascends_) .none kV0 dc0 pm0 an0 cd0 ct0), sl0⟩) (c0 : PySem.W.codeIn K cd0 "ascends" = true) (k0 : PySem.W.keepIn K (.ref f0) = true)
    (a1 : PySem.W.nsIn K mainGlobals "are_groups" = some (some (.ref f1))) (l1 : K.lookup f1 = some ⟨oc1, od1, .func (PySem.W.fnOf "are_groups" "are_groups" (C8.fnArgs st_are_groups_) (fnBody st_are_groups_) (fnScope st_are_groups_) .none kV1 dc1 pm1 an1 cd1 ct1), sl1⟩) (c1 : PySem.W.codeIn K cd1 "are_groups" = true) (k1 : PySem.W.keepIn K (.ref f1) = true)
    (a2 : PySem.W.nsIn K mainGlobals "_is_group" = some (some (.ref f2))) (l2 : K.lookup f2 = some ⟨oc2, od2, .func (PySem.W.fnOf "_is_group" "_is_group" (C8.fnArgs st_is_group) (fnBody st_is_group) (fnScope st_is_group) .none kV2 dc2 pm2 an2 cd2 ct2), sl2⟩) (c2 : PySem.W.codeIn K cd2 "_is_group" = true) (k2 : PySem.W.keepIn K (.ref f2) = true)
    (a3 : PySem.W.nsIn K mainGlobals "_numbers_of" = some (some (.ref f3))) (l3 : K.lookup f3 = some ⟨oc3, od3, .func (PySem.W.fnOf "_numbers_of" "_numbers_of" (C8.fnArgs st_numbers_of) (fnBody st_numbers_of) (fnScope st_numbers_of) .none kV3 dc3 pm3 an3 cd3 ct3), sl3⟩) (c3 : PySem.W.codeIn K cd3 "_numbers_of" = true) (k3 : PySem.W.keepIn K (.ref f3) = true)
    (a4 : PySem.W.nsIn K mainGlobals "format_words" = some (some (.ref f4))) (l4 : K.lookup f4 = some ⟨oc4, od4, .func (PySem.W.fnOf "format_words" "format_words" (C8.fnArgs st_format_words_) (fnBody st_format_words_) (fnScope st_format_words_) .none kV4 dc4 pm4 an4 cd4 ct4), sl4⟩) (c4 : PySem.W.codeIn K cd4 "format_words" = true) (k4 : PySem.W.keepIn K (.ref f4) = true)
    (a5 : PySem.W.nsIn K mainGlobals "format_form" = some (some (.ref f5))) (l5 : K.lookup f5 = some ⟨oc5, od5, .func (PySem.W.fnOf "format_form" "format_form" (C8.fnArgs st_format_form_) (fnBody st_format_form_) (fnScope st_format_form_) .none kV5 dc5 pm5 an5 cd5 ct5), sl5⟩) (c5 : PySem.W.codeIn K cd5 "format_form" = true) (k5 : PySem.W.keepIn K (.ref f5) = true)
    (a6 : PySem.W.nsIn K mainGlobals "parse_words" = some (some (.ref f6))) (l6 : K.lookup f6 = some ⟨oc6, od6, .func (PySem.W.fnOf "parse_words" "parse_words" (C8.fnArgs st_parse_words_) (fnBody st_parse_words_) (fnScope st_parse_words_) .none kV6 dc6 pm6 an6 cd6 ct6), sl6⟩) (c6 : PySem.W.codeIn K cd6 "parse_words" = true) (k6 : PySem.W.keepIn K (.ref f6) = true)
    (a7 : PySem.W.nsIn K mainGlobals "parse_form" = some (some (.ref f7))) (l7 : K.lookup f7 = some ⟨oc7, od7, .func (PySem.W.fnOf "parse_form" "parse_form" (C8.fnArgs st_parse_form_) (fnBody st_parse_form_) (fnScope st_parse_form_) .none kV7 dc7 pm7 an7 cd7 ct7), sl7⟩) (c7 : PySem.W.codeIn K cd7 "parse_form" = true) (k7 : PySem.W.keepIn K (.ref f7) = true)
    (a8 : PySem.W.nsIn K mainGlobals "_written" = some (some (.ref f8))) (l8 : K.lookup f8 = some ⟨oc8, od8, .func (PySem.W.fnOf "_written" "_written" (C8.fnArgs st_written) (fnBody st_written) (fnScope st_written) .none kV8 dc8 pm8 an8 cd8 ct8), sl8⟩) (c8 : PySem.W.codeIn K cd8 "_written" = true) (k8 : PySem.W.keepIn K (.ref f8) = true)
    (a9 : PySem.W.nsIn K mainGlobals "_read" = some (some (.ref f9))) (l9 : K.lookup f9 = some ⟨oc9, od9, .func (PySem.W.fnOf "_read" "_read" (C8.fnArgs st_read) (fnBody st_read) (fnScope st_read) .none kV9 dc9 pm9 an9 cd9 ct9), sl9⟩) (c9 : PySem.W.codeIn K cd9 "_read" = true) (k9 : PySem.W.keepIn K (.ref f9) = true)
    (a10 : PySem.W.nsIn K mainGlobals "_law_pen" = some (some (.ref f10))) (l10 : K.lookup f10 = some ⟨oc10, od10, .func (PySem.W.fnOf "_law_pen" "_law_pen" (C8.fnArgs st_law_pen) (fnBody st_law_pen) (fnScope st_law_pen) .none kV10 dc10 pm10 an10 cd10 ct10), sl10⟩) (c10 : PySem.W.codeIn K cd10 "_law_pen" = true) (k10 : PySem.W.keepIn K (.ref f10) = true)
    (a11 : PySem.W.nsIn K mainGlobals "_law_fresh" = some (some (.ref f11))) (l11 : K.lookup f11 = some ⟨oc11, od11, .func (PySem.W.fnOf "_law_fresh" "_law_fresh" (C8.fnArgs st_law_fresh) (fnBody st_law_fresh) (fnScope st_law_fresh) .none kV11 dc11 pm11 an11 cd11 ct11), sl11⟩) (c11 : PySem.W.codeIn K cd11 "_law_fresh" = true) (k11 : PySem.W.keepIn K (.ref f11) = true)
    (a12 : PySem.W.nsIn K mainGlobals "_law_draw" = some (some (.ref f12))) (l12 : K.lookup f12 = some ⟨oc12, od12, .func (PySem.W.fnOf "_law_draw" "_law_draw" (C8.fnArgs st_law_draw) (fnBody st_law_draw) (fnScope st_law_draw) .none kV12 dc12 pm12 an12 cd12 ct12), sl12⟩) (c12 : PySem.W.codeIn K cd12 "_law_draw" = true) (k12 : PySem.W.keepIn K (.ref f12) = true)
    (a13 : PySem.W.nsIn K mainGlobals "_law_one_of" = some (some (.ref f13))) (l13 : K.lookup f13 = some ⟨oc13, od13, .func (PySem.W.fnOf "_law_one_of" "_law_one_of" (C8.fnArgs st_law_one_of) (fnBody st_law_one_of) (fnScope st_law_one_of) .none kV13 dc13 pm13 an13 cd13 ct13), sl13⟩) (c13 : PySem.W.codeIn K cd13 "_law_one_of" = true) (k13 : PySem.W.keepIn K (.ref f13) = true)
    (a14 : PySem.W.nsIn K mainGlobals "_law_word" = some (some (.ref f14))) (l14 : K.lookup f14 = some ⟨oc14, od14, .func (PySem.W.fnOf "_law_word" "_law_word" (C8.fnArgs st_law_word) (fnBody st_law_word) (fnScope st_law_word) .none kV14 dc14 pm14 an14 cd14 ct14), sl14⟩) (c14 : PySem.W.codeIn K cd14 "_law_word" = true) (k14 : PySem.W.keepIn K (.ref f14) = true)
    (a15 : PySem.W.nsIn K mainGlobals "_law_line" = some (some (.ref f15))) (l15 : K.lookup f15 = some ⟨oc15, od15, .func (PySem.W.fnOf "_law_line" "_law_line" (C8.fnArgs st_law_line) (fnBody st_law_line) (fnScope st_law_line) .none kV15 dc15 pm15 an15 cd15 ct15), sl15⟩) (c15 : PySem.W.codeIn K cd15 "_law_line" = true) (k15 : PySem.W.keepIn K (.ref f15) = true)
    (a16 : PySem.W.nsIn K mainGlobals "_law_form" = some (some (.ref f16))) (l16 : K.lookup f16 = some ⟨oc16, od16, .func (PySem.W.fnOf "_law_form" "_law_form" (C8.fnArgs st_law_form) (fnBody st_law_form) (fnScope st_law_form) .none kV16 dc16 pm16 an16 cd16 ct16), sl16⟩) (c16 : PySem.W.codeIn K cd16 "_law_form" = true) (k16 : PySem.W.keepIn K (.ref f16) = true)
    (a17 : PySem.W.nsIn K mainGlobals "_law_form_text" = some (some (.ref f17))) (l17 : K.lookup f17 = some ⟨oc17, od17, .func (PySem.W.fnOf "_law_form_text" "_law_form_text" (C8.fnArgs st_law_form_text) (fnBody st_law_form_text) (fnScope st_law_form_text) .none kV17 dc17 pm17 an17 cd17 ct17), sl17⟩) (c17 : PySem.W.codeIn K cd17 "_law_form_text" = true) (k17 : PySem.W.keepIn K (.ref f17) = true)
    (a18 : PySem.W.nsIn K mainGlobals "law" = some (some (.ref f18))) (l18 : K.lookup f18 = some ⟨oc18, od18, .func (PySem.W.fnOf "law" "law" (C8.fnArgs st_law_) (fnBody st_law_) (fnScope st_law_) .none kV18 dc18 pm18 an18 cd18 ct18), sl18⟩) (c18 : PySem.W.codeIn K cd18 "law" = true) (k18 : PySem.W.keepIn K (.ref f18) = true)
    {t_ALPHABET : Tok} (s_ALPHABET : PySem.W.nsIn K mainGlobals "ALPHABET" = some (some (.str "abcdefghijklmnopqrstuvwxyz" t_ALPHABET)))
    {t_MOST_GROUPS : Tok} (s_MOST_GROUPS : PySem.W.nsIn K mainGlobals "MOST_GROUPS" = some (some (.int 3 t_MOST_GROUPS)))
    {t_MOST_FORM_STATES : Tok} (s_MOST_FORM_STATES : PySem.W.nsIn K mainGlobals "MOST_FORM_STATES" = some (some (.int 4 t_MOST_FORM_STATES)))
    {t_KINDS_OF_WORDS : Tok} (s_KINDS_OF_WORDS : PySem.W.nsIn K mainGlobals "KINDS_OF_WORDS" = some (some (.int 4 t_KINDS_OF_WORDS)))
    (z_list : PySem.W.nsIn K mainGlobals "list" = some none)
    (z_int : PySem.W.nsIn K mainGlobals "int" = some none)
    (z_len : PySem.W.nsIn K mainGlobals "len" = some none)
    (z_range : PySem.W.nsIn K mainGlobals "range" = some none)
    (z_tuple : PySem.W.nsIn K mainGlobals "tuple" = some none)
    (z_isinstance : PySem.W.nsIn K mainGlobals "isinstance" = some none)
    (z_str : PySem.W.nsIn K mainGlobals "str" = some none)
    (z_repr : PySem.W.nsIn K mainGlobals "repr" = some none)
    (z_sorted : PySem.W.nsIn K mainGlobals "sorted" = some none)
    (z_all : PySem.W.nsIn K mainGlobals "all" = some none)
    (z_zip : PySem.W.nsIn K mainGlobals "zip" = some none)
    (z_set : PySem.W.nsIn K mainGlobals "set" = some none)
    (z_max : PySem.W.nsIn K mainGlobals "max" = some none)
    (z_enumerate : PySem.W.nsIn K mainGlobals "enumerate" = some none)
    {C_WordsDraft : Addr}
    {f_WordsDraft___init__ : Addr} {vc_WordsDraft___init__ vd_WordsDraft___init__ ve_WordsDraft___init__ vf_WordsDraft___init__ vg_WordsDraft___init__ vh_WordsDraft___init__ : Value} {vq_WordsDraft___init__ va_WordsDraft___init__ : Option Addr} {vr_WordsDraft___init__ : Array (Option Value)}
    {f_WordsDraft_takes : Addr} {vc_WordsDraft_takes vd_WordsDraft_takes ve_WordsDraft_takes vf_WordsDraft_takes vg_WordsDraft_takes vh_WordsDraft_takes : Value} {vq_WordsDraft_takes va_WordsDraft_takes : Option Addr} {vr_WordsDraft_takes : Array (Option Value)}
    {f_WordsDraft_is_whole : Addr} {vc_WordsDraft_is_whole vd_WordsDraft_is_whole ve_WordsDraft_is_whole vf_WordsDraft_is_whole vg_WordsDraft_is_whole vh_WordsDraft_is_whole : Value} {vq_WordsDraft_is_whole va_WordsDraft_is_whole : Option Addr} {vr_WordsDraft_is_whole : Array (Option Value)}
    {f_WordsDraft_made : Addr} {vc_WordsDraft_made vd_WordsDraft_made ve_WordsDraft_made vf_WordsDraft_made vg_WordsDraft_made vh_WordsDraft_made : Value} {vq_WordsDraft_made va_WordsDraft_made : Option Addr} {vr_WordsDraft_made : Array (Option Value)}
    (xw_WordsDraft : PySem.W.nsIn K mainGlobals "WordsDraft" = some (some (.ref C_WordsDraft)))
    (xpg_WordsDraft : PySem.W.plainGet K C_WordsDraft Str.empty = true)
    (xhd_WordsDraft : PySem.W.hasDictIn K C_WordsDraft = true)
    (xpo_WordsDraft : PySem.W.plainOver K C_WordsDraft = true)
    (xsa_WordsDraft : PySem.W.findIn K (.ref C_WordsDraft) "__setattr__" = some (some (.builtin "object.__setattr__")))
    (xmk_WordsDraft : PySem.W.makesIn K C_WordsDraft = true)
    (xkp_WordsDraft : PySem.W.keepIn K (.ref C_WordsDraft) = true)
    (xn0_WordsDraft : PySem.W.findIn K (.ref C_WordsDraft) "words" = some none)
    (ma___init___WordsDraft : PySem.W.findIn K (.ref C_WordsDraft) "__init__" = some (some (.ref f_WordsDraft___init__)))
    (mf___init___WordsDraft : PySem.W.isFn K (.ref f_WordsDraft___init__) = true)
    (mk___init___WordsDraft : PySem.W.keepIn K (.ref f_WordsDraft___init__) = true)
    (ml___init___WordsDraft : K.lookup f_WordsDraft___init__ = some ⟨vc_WordsDraft___init__, vq_WordsDraft___init__, .func (PySem.W.fnOf "__init__" "WordsDraft.__init__" (C8.fnArgs stC_WordsDraft___init__) (fnBody stC_WordsDraft___init__) (fnScope stC_WordsDraft___init__) .none vd_WordsDraft___init__ ve_WordsDraft___init__ vf_WordsDraft___init__ va_WordsDraft___init__ vg_WordsDraft___init__ vh_WordsDraft___init__), vr_WordsDraft___init__⟩)
    (mc___init___WordsDraft : PySem.W.codeIn K vg_WordsDraft___init__ "WordsDraft.__init__" = true)
    (ma_takes_WordsDraft : PySem.W.findIn K (.ref C_WordsDraft) "takes" = some (some (.ref f_WordsDraft_takes)))
    (mf_takes_WordsDraft : PySem.W.isFn K (.ref f_WordsDraft_takes) = true)
    (mk_takes_WordsDraft : PySem.W.keepIn K (.ref f_WordsDraft_takes) = true)
    (ml_takes_WordsDraft : K.lookup f_WordsDraft_takes = some ⟨vc_WordsDraft_takes, vq_WordsDraft_takes, .func (PySem.W.fnOf "takes" "WordsDraft.takes" (C8.fnArgs stC_WordsDraft_takes) (fnBody stC_WordsDraft_takes) (fnScope stC_WordsDraft_takes) .none vd_WordsDraft_takes ve_WordsDraft_takes vf_WordsDraft_takes va_WordsDraft_takes vg_WordsDraft_takes vh_WordsDraft_takes), vr_WordsDraft_takes⟩)
    (mc_takes_WordsDraft : PySem.W.codeIn K vg_WordsDraft_takes "WordsDraft.takes" = true)
    (ma_is_whole_WordsDraft : PySem.W.findIn K (.ref C_WordsDraft) "is_whole" = some (some (.ref f_WordsDraft_is_whole)))
    (mf_is_whole_WordsDraft : PySem.W.isFn K (.ref f_WordsDraft_is_whole) = true)
    (mk_is_whole_WordsDraft : PySem.W.keepIn K (.ref f_WordsDraft_is_whole) = true)
    (ml_is_whole_WordsDraft : K.lookup f_WordsDraft_is_whole = some ⟨vc_WordsDraft_is_whole, vq_WordsDraft_is_whole, .func (PySem.W.fnOf "is_whole" "WordsDraft.is_whole" (C8.fnArgs stC_WordsDraft_is_whole) (fnBody stC_WordsDraft_is_whole) (fnScope stC_WordsDraft_is_whole) .none vd_WordsDraft_is_whole ve_WordsDraft_is_whole vf_WordsDraft_is_whole va_WordsDraft_is_whole vg_WordsDraft_is_whole vh_WordsDraft_is_whole), vr_WordsDraft_is_whole⟩)
    (mc_is_whole_WordsDraft : PySem.W.codeIn K vg_WordsDraft_is_whole "WordsDraft.is_whole" = true)
    (ma_made_WordsDraft : PySem.W.findIn K (.ref C_WordsDraft) "made" = some (some (.ref f_WordsDraft_made)))
    (mf_made_WordsDraft : PySem.W.isFn K (.ref f_WordsDraft_made) = true)
    (mk_made_WordsDraft : PySem.W.keepIn K (.ref f_WordsDraft_made) = true)
    (ml_made_WordsDraft : K.lookup f_WordsDraft_made = some ⟨vc_WordsDraft_made, vq_WordsDraft_made, .func (PySem.W.fnOf "made" "WordsDraft.made" (C8.fnArgs stC_WordsDraft_made) (fnBody stC_WordsDraft_made) (fnScope stC_WordsDraft_made) .none vd_WordsDraft_made ve_WordsDraft_made vf_WordsDraft_made va_WordsDraft_made vg_WordsDraft_made vh_WordsDraft_made), vr_WordsDraft_made⟩)
    (mc_made_WordsDraft : PySem.W.codeIn K vg_WordsDraft_made "WordsDraft.made" = true)
    {C_FormDraft : Addr}
    {f_FormDraft___init__ : Addr} {vc_FormDraft___init__ vd_FormDraft___init__ ve_FormDraft___init__ vf_FormDraft___init__ vg_FormDraft___init__ vh_FormDraft___init__ : Value} {vq_FormDraft___init__ va_FormDraft___init__ : Option Addr} {vr_FormDraft___init__ : Array (Option Value)}
    {f_FormDraft_takes : Addr} {vc_FormDraft_takes vd_FormDraft_takes ve_FormDraft_takes vf_FormDraft_takes vg_FormDraft_takes vh_FormDraft_takes : Value} {vq_FormDraft_takes va_FormDraft_takes : Option Addr} {vr_FormDraft_takes : Array (Option Value)}
    {f_FormDraft_is_whole : Addr} {vc_FormDraft_is_whole vd_FormDraft_is_whole ve_FormDraft_is_whole vf_FormDraft_is_whole vg_FormDraft_is_whole vh_FormDraft_is_whole : Value} {vq_FormDraft_is_whole va_FormDraft_is_whole : Option Addr} {vr_FormDraft_is_whole : Array (Option Value)}
    {f_FormDraft_made : Addr} {vc_FormDraft_made vd_FormDraft_made ve_FormDraft_made vf_FormDraft_made vg_FormDraft_made vh_FormDraft_made : Value} {vq_FormDraft_made va_FormDraft_made : Option Addr} {vr_FormDraft_made : Array (Option Value)}
    {f_FormDraft__takes_groups : Addr} {vc_FormDraft__takes_groups vd_FormDraft__takes_groups ve_FormDraft__takes_groups vf_FormDraft__takes_groups vg_FormDraft__takes_groups vh_FormDraft__takes_groups : Value} {vq_FormDraft__takes_groups va_FormDraft__takes_groups : Option Addr} {vr_FormDraft__takes_groups : Array (Option Value)}
    {f_FormDraft__takes_row : Addr} {vc_FormDraft__takes_row vd_FormDraft__takes_row ve_FormDraft__takes_row vf_FormDraft__takes_row vg_FormDraft__takes_row vh_FormDraft__takes_row : Value} {vq_FormDraft__takes_row va_FormDraft__takes_row : Option Addr} {vr_FormDraft__takes_row : Array (Option Value)}
    {f_FormDraft__takes_good : Addr} {vc_FormDraft__takes_good vd_FormDraft__takes_good ve_FormDraft__takes_good vf_FormDraft__takes_good vg_FormDraft__takes_good vh_FormDraft__takes_good : Value} {vq_FormDraft__takes_good va_FormDraft__takes_good : Option Addr} {vr_FormDraft__takes_good : Array (Option Value)}
    (xw_FormDraft : PySem.W.nsIn K mainGlobals "FormDraft" = some (some (.ref C_FormDraft)))
    (xpg_FormDraft : PySem.W.plainGet K C_FormDraft Str.empty = true)
    (xhd_FormDraft : PySem.W.hasDictIn K C_FormDraft = true)
    (xpo_FormDraft : PySem.W.plainOver K C_FormDraft = true)
    (xsa_FormDraft : PySem.W.findIn K (.ref C_FormDraft) "__setattr__" = some (some (.builtin "object.__setattr__")))
    (xmk_FormDraft : PySem.W.makesIn K C_FormDraft = true)
    (xkp_FormDraft : PySem.W.keepIn K (.ref C_FormDraft) = true)
    (xn0_FormDraft : PySem.W.findIn K (.ref C_FormDraft) "groups" = some none)
    (xn1_FormDraft : PySem.W.findIn K (.ref C_FormDraft) "table" = some none)
    (xn2_FormDraft : PySem.W.findIn K (.ref C_FormDraft) "good" = some none)
    (ma___init___FormDraft : PySem.W.findIn K (.ref C_FormDraft) "__init__" = some (some (.ref f_FormDraft___init__)))
    (mf___init___FormDraft : PySem.W.isFn K (.ref f_FormDraft___init__) = true)
    (mk___init___FormDraft : PySem.W.keepIn K (.ref f_FormDraft___init__) = true)
    (ml___init___FormDraft : K.lookup f_FormDraft___init__ = some ⟨vc_FormDraft___init__, vq_FormDraft___init__, .func (PySem.W.fnOf "__init__" "FormDraft.__init__" (C8.fnArgs stC_FormDraft___init__) (fnBody stC_FormDraft___init__) (fnScope stC_FormDraft___init__) .none vd_FormDraft___init__ ve_FormDraft___init__ vf_FormDraft___init__ va_FormDraft___init__ vg_FormDraft___init__ vh_FormDraft___init__), vr_FormDraft___init__⟩)
    (mc___init___FormDraft : PySem.W.codeIn K vg_FormDraft___init__ "FormDraft.__init__" = true)
    (ma_takes_FormDraft : PySem.W.findIn K (.ref C_FormDraft) "takes" = some (some (.ref f_FormDraft_takes)))
    (mf_takes_FormDraft : PySem.W.isFn K (.ref f_FormDraft_takes) = true)
    (mk_takes_FormDraft : PySem.W.keepIn K (.ref f_FormDraft_takes) = true)
    (ml_takes_FormDraft : K.lookup f_FormDraft_takes = some ⟨vc_FormDraft_takes, vq_FormDraft_takes, .func (PySem.W.fnOf "takes" "FormDraft.takes" (C8.fnArgs stC_FormDraft_takes) (fnBody stC_FormDraft_takes) (fnScope stC_FormDraft_takes) .none vd_FormDraft_takes ve_FormDraft_takes vf_FormDraft_takes va_FormDraft_takes vg_FormDraft_takes vh_FormDraft_takes), vr_FormDraft_takes⟩)
    (mc_takes_FormDraft : PySem.W.codeIn K vg_FormDraft_takes "FormDraft.takes" = true)
    (ma_is_whole_FormDraft : PySem.W.findIn K (.ref C_FormDraft) "is_whole" = some (some (.ref f_FormDraft_is_whole)))
    (mf_is_whole_FormDraft : PySem.W.isFn K (.ref f_FormDraft_is_whole) = true)
    (mk_is_whole_FormDraft : PySem.W.keepIn K (.ref f_FormDraft_is_whole) = true)
    (ml_is_whole_FormDraft : K.lookup f_FormDraft_is_whole = some ⟨vc_FormDraft_is_whole, vq_FormDraft_is_whole, .func (PySem.W.fnOf "is_whole" "FormDraft.is_whole" (C8.fnArgs stC_FormDraft_is_whole) (fnBody stC_FormDraft_is_whole) (fnScope stC_FormDraft_is_whole) .none vd_FormDraft_is_whole ve_FormDraft_is_whole vf_FormDraft_is_whole va_FormDraft_is_whole vg_FormDraft_is_whole vh_FormDraft_is_whole), vr_FormDraft_is_whole⟩)
    (mc_is_whole_FormDraft : PySem.W.codeIn K vg_FormDraft_is_whole "FormDraft.is_whole" = true)
    (ma_made_FormDraft : PySem.W.findIn K (.ref C_FormDraft) "made" = some (some (.ref f_FormDraft_made)))
    (mf_made_FormDraft : PySem.W.isFn K (.ref f_FormDraft_made) = true)
    (mk_made_FormDraft : PySem.W.keepIn K (.ref f_FormDraft_made) = true)
    (ml_made_FormDraft : K.lookup f_FormDraft_made = some ⟨vc_FormDraft_made, vq_FormDraft_made, .func (PySem.W.fnOf "made" "FormDraft.made" (C8.fnArgs stC_FormDraft_made) (fnBody stC_FormDraft_made) (fnScope stC_FormDraft_made) .none vd_FormDraft_made ve_FormDraft_made vf_FormDraft_made va_FormDraft_made vg_FormDraft_made vh_FormDraft_made), vr_FormDraft_made⟩)
    (mc_made_FormDraft : PySem.W.codeIn K vg_FormDraft_made "FormDraft.made" = true)
    (ma__takes_groups_FormDraft : PySem.W.findIn K (.ref C_FormDraft) "_takes_groups" = some (some (.ref f_FormDraft__takes_groups)))
    (mf__takes_groups_FormDraft : PySem.W.isFn K (.ref f_FormDraft__takes_groups) = true)
    (mk__takes_groups_FormDraft : PySem.W.keepIn K (.ref f_FormDraft__takes_groups) = true)
    (ml__takes_groups_FormDraft : K.lookup f_FormDraft__takes_groups = some ⟨vc_FormDraft__takes_groups, vq_FormDraft__takes_groups, .func (PySem.W.fnOf "_takes_groups" "FormDraft._takes_groups" (C8.fnArgs stC_FormDraft__takes_groups) (fnBody stC_FormDraft__takes_groups) (fnScope stC_FormDraft__takes_groups) .none vd_FormDraft__takes_groups ve_FormDraft__takes_groups vf_FormDraft__takes_groups va_FormDraft__takes_groups vg_FormDraft__takes_groups vh_FormDraft__takes_groups), vr_FormDraft__takes_groups⟩)
    (mc__takes_groups_FormDraft : PySem.W.codeIn K vg_FormDraft__takes_groups "FormDraft._takes_groups" = true)
    (ma__takes_row_FormDraft : PySem.W.findIn K (.ref C_FormDraft) "_takes_row" = some (some (.ref f_FormDraft__takes_row)))
    (mf__takes_row_FormDraft : PySem.W.isFn K (.ref f_FormDraft__takes_row) = true)
    (mk__takes_row_FormDraft : PySem.W.keepIn K (.ref f_FormDraft__takes_row) = true)
    (ml__takes_row_FormDraft : K.lookup f_FormDraft__takes_row = some ⟨vc_FormDraft__takes_row, vq_FormDraft__takes_row, .func (PySem.W.fnOf "_takes_row" "FormDraft._takes_row" (C8.fnArgs stC_FormDraft__takes_row) (fnBody stC_FormDraft__takes_row) (fnScope stC_FormDraft__takes_row) .none vd_FormDraft__takes_row ve_FormDraft__takes_row vf_FormDraft__takes_row va_FormDraft__takes_row vg_FormDraft__takes_row vh_FormDraft__takes_row), vr_FormDraft__takes_row⟩)
    (mc__takes_row_FormDraft : PySem.W.codeIn K vg_FormDraft__takes_row "FormDraft._takes_row" = true)
    (ma__takes_good_FormDraft : PySem.W.findIn K (.ref C_FormDraft) "_takes_good" = some (some (.ref f_FormDraft__takes_good)))
    (mf__takes_good_FormDraft : PySem.W.isFn K (.ref f_FormDraft__takes_good) = true)
    (mk__takes_good_FormDraft : PySem.W.keepIn K (.ref f_FormDraft__takes_good) = true)
    (ml__takes_good_FormDraft : K.lookup f_FormDraft__takes_good = some ⟨vc_FormDraft__takes_good, vq_FormDraft__takes_good, .func (PySem.W.fnOf "_takes_good" "FormDraft._takes_good" (C8.fnArgs stC_FormDraft__takes_good) (fnBody stC_FormDraft__takes_good) (fnScope stC_FormDraft__takes_good) .none vd_FormDraft__takes_good ve_FormDraft__takes_good vf_FormDraft__takes_good va_FormDraft__takes_good vg_FormDraft__takes_good vh_FormDraft__takes_good), vr_FormDraft__takes_good⟩)
    (mc__takes_good_FormDraft : PySem.W.codeIn K vg_FormDraft__takes_good "FormDraft._takes_good" = true)
    {N_NUMBERS : Addr} {nn_NUMBERS : Nat} {ns_NUMBERS : Array (Option Value)} {nt0_NUMBERS nt1_NUMBERS nt2_NUMBERS nt3_NUMBERS nt4_NUMBERS nt5_NUMBERS nt6_NUMBERS nt7_NUMBERS nt8_NUMBERS nt9_NUMBERS nt10_NUMBERS nt11_NUMBERS : Tok}
    (nw_NUMBERS : PySem.W.nsIn K mainGlobals "NUMBERS" = some (some (.ref N_NUMBERS)))
    (nl_NUMBERS : K.lookup N_NUMBERS = some ⟨.type "tuple", none, .seq #[.str "0" nt0_NUMBERS, .str "1" nt1_NUMBERS, .str "2" nt2_NUMBERS, .str "3" nt3_NUMBERS, .str "4" nt4_NUMBERS, .str "5" nt5_NUMBERS, .str "6" nt6_NUMBERS, .str "7" nt7_NUMBERS, .str "8" nt8_NUMBERS, .str "9" nt9_NUMBERS, .str "10" nt10_NUMBERS, .str "11" nt11_NUMBERS] nn_NUMBERS, ns_NUMBERS⟩) :
    ∃ fd : FuncData, (∀ (s : Shared) (u : Value), BindsTo s fd ⟨[u], []⟩ [("script", u)]) ∧ ∀ base : Heap, K.In base → base.Ns mainGlobals mg → FnG l.prog w K mg base 8 fa fd ["script"] (spLaw K) := by
  have e := named.symm.trans (PySem.W.mg_of X G a18)
  cases e
  have F0 : C8.Fun K "ascends" "ascends" st_ascends_ f0 _ := ⟨⟨_, _, _, _, _, _, _, _, _, _, rfl, l0, c0⟩⟩
  have Dascends : C8.Def K mg "ascends" st_ascends_ f0 _ := ⟨F0, PySem.W.mg_of X G a0, k0⟩
  have bascends := F0.binds rfl (ps := ["values"]) fun _ _ _ _ _ _ us hl => match us, hl with | [_], _ => rfl
  have F1 : C8.Fun K "are_groups" "are_groups" st_are_groups_ f1 _ := ⟨⟨_, _, _, _, _, _, _, _, _, _, rfl, l1, c1⟩⟩
  have Dare_groups : C8.Def K mg "are_groups" st_are_groups_ f1 _ := ⟨F1, PySem.W.mg_of X G a1, k1⟩
  have bare_groups := F1.binds rfl (ps := ["groups"]) fun _ _ _ _ _ _ us hl => match us, hl with | [_], _ => rfl
  have F2 : C8.Fun K "_is_group" "_is_group" st_is_group f2 _ := ⟨⟨_, _, _, _, _, _, _, _, _, _, rfl, l2, c2⟩⟩
  have D_is_group : C8.Def K mg "_is_group" st_is_group f2 _ := ⟨F2, PySem.W.mg_of X G a2, k2⟩
  have b_is_group := F2.binds rfl (ps := ["value"]) fun _ _ _ _ _ _ us hl => match us, hl with | [_], _ => rfl
  have F3 : C8.Fun K "_numbers_of" "_numbers_of" st_numbers_of f3 _ := ⟨⟨_, _, _, _, _, _, _, _, _, _, rfl, l3, c3⟩⟩
  have D_numbers_of : C8.Def K mg "_numbers_of" st_numbers_of f3 _ := ⟨F3, PySem.W.mg_of X G a3, k3⟩
  have b_numbers_of := F3.binds rfl (ps := ["parts", "many"]) fun _ _ _ _ _ _ us hl => match us, hl with | [_, _], _ => rfl
  have F4 : C8.Fun K "format_words" "format_words" st_format_words_ f4 _ := ⟨⟨_, _, _, _, _, _, _, _, _, _, rfl, l4, c4⟩⟩
  have Dformat_words : C8.Def K mg "format_words" st_format_words_ f4 _ := ⟨F4, PySem.W.mg_of X G a4, k4⟩
  have bformat_words := F4.binds rfl (ps := ["words"]) fun _ _ _ _ _ _ us hl => match us, hl with | [_], _ => rfl
  have F5 : C8.Fun K "format_form" "format_form" st_format_form_ f5 _ := ⟨⟨_, _, _, _, _, _, _, _, _, _, rfl, l5, c5⟩⟩
  have Dformat_form : C8.Def K mg "format_form" st_format_form_ f5 _ := ⟨F5, PySem.W.mg_of X G a5, k5⟩
  have bformat_form := F5.binds rfl (ps := ["form"]) fun _ _ _ _ _ _ us hl => match us, hl with | [_], _ => rfl
  have F6 : C8.Fun K "parse_words" "parse_words" st_parse_words_ f6 _ := ⟨⟨_, _, _, _, _, _, _, _, _, _, rfl, l6, c6⟩⟩
  have Dparse_words : C8.Def K mg "parse_words" st_parse_words_ f6 _ := ⟨F6, PySem.W.mg_of X G a6, k6⟩
  have bparse_words := F6.binds rfl (ps := ["text"]) fun _ _ _ _ _ _ us hl => match us, hl with | [_], _ => rfl
  have F7 : C8.Fun K "parse_form" "parse_form" st_parse_form_ f7 _ := ⟨⟨_, _, _, _, _, _, _, _, _, _, rfl, l7, c7⟩⟩
  have Dparse_form : C8.Def K mg "parse_form" st_parse_form_ f7 _ := ⟨F7, PySem.W.mg_of X G a7, k7⟩
  have bparse_form := F7.binds rfl (ps := ["text"]) fun _ _ _ _ _ _ us hl => match us, hl with | [_], _ => rfl
  have F8 : C8.Fun K "_written" "_written" st_written f8 _ := ⟨⟨_, _, _, _, _, _, _, _, _, _, rfl, l8, c8⟩⟩
  have D_written : C8.Def K mg "_written" st_written f8 _ := ⟨F8, PySem.W.mg_of X G a8, k8⟩
  have b_written := F8.binds rfl (ps := ["lines"]) fun _ _ _ _ _ _ us hl => match us, hl with | [_], _ => rfl
  have F9 : C8.Fun K "_read" "_read" st_read f9 _ := ⟨⟨_, _, _, _, _, _, _, _, _, _, rfl, l9, c9⟩⟩
  have D_read : C8.Def K mg "_read" st_read f9 _ := ⟨F9, PySem.W.mg_of X G a9, k9⟩
  have b_read := F9.binds rfl (ps := ["text", "draft"]) fun _ _ _ _ _ _ us hl => match us, hl with | [_, _], _ => rfl
  have F10 : C8.Fun K "_law_pen" "_law_pen" st_law_pen f10 _ := ⟨⟨_, _, _, _, _, _, _, _, _, _, rfl, l10, c10⟩⟩
  have D_law_pen : C8.Def K mg "_law_pen" st_law_pen f10 _ := ⟨F10, PySem.W.mg_of X G a10, k10⟩
  have b_law_pen := F10.binds rfl (ps := ["script"]) fun _ _ _ _ _ _ us hl => match us, hl with | [_], _ => rfl
  have F11 : C8.Fun K "_law_fresh" "_law_fresh" st_law_fresh f11 _ := ⟨⟨_, _, _, _, _, _, _, _, _, _, rfl, l11, c11⟩⟩
  have D_law_fresh : C8.Def K mg "_law_fresh" st_law_fresh f11 _ := ⟨F11, PySem.W.mg_of X G a11, k11⟩
  have b_law_fresh := F11.binds rfl (ps := ["pen"]) fun _ _ _ _ _ _ us hl => match us, hl with | [_], _ => rfl
  have F12 : C8.Fun K "_law_draw" "_law_draw" st_law_draw f12 _ := ⟨⟨_, _, _, _, _, _, _, _, _, _, rfl, l12, c12⟩⟩
  have D_law_draw : C8.Def K mg "_law_draw" st_law_draw f12 _ := ⟨F12, PySem.W.mg_of X G a12, k12⟩
  have b_law_draw := F12.binds rfl (ps := ["pen", "bound"]) fun _ _ _ _ _ _ us hl => match us, hl with | [_, _], _ => rfl
  have F13 : C8.Fun K "_law_one_of" "_law_one_of" st_law_one_of f13 _ := ⟨⟨_, _, _, _, _, _, _, _, _, _, rfl, l13, c13⟩⟩
  have D_law_one_of : C8.Def K mg "_law_one_of" st_law_one_of f13 _ := ⟨F13, PySem.W.mg_of X G a13, k13⟩
  have b_law_one_of := F13.binds rfl (ps := ["pen", "rows"]) fun _ _ _ _ _ _ us hl => match us, hl with | [_, _], _ => rfl
  have F14 : C8.Fun K "_law_word" "_law_word" st_law_word f14 _ := ⟨⟨_, _, _, _, _, _, _, _, _, _, rfl, l14, c14⟩⟩
  have D_law_word : C8.Def K mg "_law_word" st_law_word f14 _ := ⟨F14, PySem.W.mg_of X G a14, k14⟩
  have b_law_word := F14.binds rfl (ps := ["pen", "count", "most"]) fun _ _ _ _ _ _ us hl => match us, hl with | [_, _, _], _ => rfl
  have F15 : C8.Fun K "_law_line" "_law_line" st_law_line f15 _ := ⟨⟨_, _, _, _, _, _, _, _, _, _, rfl, l15, c15⟩⟩
  have D_law_line : C8.Def K mg "_law_line" st_law_line f15 _ := ⟨F15, PySem.W.mg_of X G a15, k15⟩
  have b_law_line := F15.binds rfl (ps := ["parts"]) fun _ _ _ _ _ _ us hl => match us, hl with | [_], _ => rfl
  have F16 : C8.Fun K "_law_form" "_law_form" st_law_form f16 _ := ⟨⟨_, _, _, _, _, _, _, _, _, _, rfl, l16, c16⟩⟩
  have D_law_form : C8.Def K mg "_law_form" st_law_form f16 _ := ⟨F16, PySem.W.mg_of X G a16, k16⟩
  have b_law_form := F16.binds rfl (ps := ["pen"]) fun _ _ _ _ _ _ us hl => match us, hl with | [_], _ => rfl
  have F17 : C8.Fun K "_law_form_text" "_law_form_text" st_law_form_text f17 _ := ⟨⟨_, _, _, _, _, _, _, _, _, _, rfl, l17, c17⟩⟩
  have D_law_form_text : C8.Def K mg "_law_form_text" st_law_form_text f17 _ := ⟨F17, PySem.W.mg_of X G a17, k17⟩
  have b_law_form_text := F17.binds rfl (ps := ["form"]) fun _ _ _ _ _ _ us hl => match us, hl with | [_], _ => rfl
  have F18 : C8.Fun K "law" "law" st_law_ _ _ := ⟨⟨_, _, _, _, _, _, _, _, _, _, rfl, l18, c18⟩⟩
  have hWordsDraft : mg "WordsDraft" = some (.ref C_WordsDraft) := PySem.W.mg_of X G xw_WordsDraft
  have clWordsDraft : Cls K C_WordsDraft := ⟨xpg_WordsDraft, xhd_WordsDraft, xpo_WordsDraft, xsa_WordsDraft⟩
  have FWordsDraft___init__ : C8.Fun K "__init__" "WordsDraft.__init__" stC_WordsDraft___init__ f_WordsDraft___init__ _ := ⟨⟨_, _, _, _, _, _, _, _, _, _, rfl, ml___init___WordsDraft, mc___init___WordsDraft⟩⟩
  have bWordsDraft___init__ := FWordsDraft___init__.binds rfl (ps := ["self"]) fun _ _ _ _ _ _ us hl => match us, hl with | [_], _ => rfl
  have MWordsDraft : Mk K C_WordsDraft f_WordsDraft___init__ := ⟨xmk_WordsDraft, ma___init___WordsDraft, mf___init___WordsDraft, xkp_WordsDraft⟩
  have FWordsDraft_takes : C8.Fun K "takes" "WordsDraft.takes" stC_WordsDraft_takes f_WordsDraft_takes _ := ⟨⟨_, _, _, _, _, _, _, _, _, _, rfl, ml_takes_WordsDraft, mc_takes_WordsDraft⟩⟩
  have bWordsDraft_takes := FWordsDraft_takes.binds rfl (ps := ["self", "parts"]) fun _ _ _ _ _ _ us hl => match us, hl with | [_, _], _ => rfl
  have eWordsDraft_takes : Meth K C_WordsDraft "takes" f_WordsDraft_takes := ⟨ma_takes_WordsDraft, mf_takes_WordsDraft, mk_takes_WordsDraft⟩
  have FWordsDraft_is_whole : C8.Fun K "is_whole" "WordsDraft.is_whole" stC_WordsDraft_is_whole f_WordsDraft_is_whole _ := ⟨⟨_, _, _, _, _, _, _, _, _, _, rfl, ml_is_whole_WordsDraft, mc_is_whole_WordsDraft⟩⟩
  have bWordsDraft_is_whole := FWordsDraft_is_whole.binds rfl (ps := ["self"]) fun _ _ _ _ _ _ us hl => match us, hl with | [_], _ => rfl
  have eWordsDraft_is_whole : Meth K C_WordsDraft "is_whole" f_WordsDraft_is_whole := ⟨ma_is_whole_WordsDraft, mf_is_whole_WordsDraft, mk_is_whole_WordsDraft⟩
  have FWordsDraft_made : C8.Fun K "made" "WordsDraft.made" stC_WordsDraft_made f_WordsDraft_made _ := ⟨⟨_, _, _, _, _, _, _, _, _, _, rfl, ml_made_WordsDraft, mc_made_WordsDraft⟩⟩
  have bWordsDraft_made := FWordsDraft_made.binds rfl (ps := ["self"]) fun _ _ _ _ _ _ us hl => match us, hl with | [_], _ => rfl
  have eWordsDraft_made : Meth K C_WordsDraft "made" f_WordsDraft_made := ⟨ma_made_WordsDraft, mf_made_WordsDraft, mk_made_WordsDraft⟩
  have hFormDraft : mg "FormDraft" = some (.ref C_FormDraft) := PySem.W.mg_of X G xw_FormDraft
  have clFormDraft : Cls K C_FormDraft := ⟨xpg_FormDraft, xhd_FormDraft, xpo_FormDraft, xsa_FormDraft⟩
  have FFormDraft___init__ : C8.Fun K "__init__" "FormDraft.__init__" stC_FormDraft___init__ f_FormDraft___init__ _ := ⟨⟨_, _, _, _, _, _, _, _, _, _, rfl, ml___init___FormDraft, mc___init___FormDraft⟩⟩
  have bFormDraft___init__ := FFormDraft___init__.binds rfl (ps := ["self"]) fun _ _ _ _ _ _ us hl => match us, hl with | [_], _ => rfl
  have MFormDraft : Mk K C_FormDraft f_FormDraft___init__ := ⟨xmk_FormDraft, ma___init___FormDraft, mf___init___FormDraft, xkp_FormDraft⟩
  have FFormDraft_takes : C8.Fun K "takes" "FormDraft.takes" stC_FormDraft_takes f_FormDraft_takes _ := ⟨⟨_, _, _, _, _, _, _, _, _, _, rfl, ml_takes_FormDraft, mc_takes_FormDraft⟩⟩
  have bFormDraft_takes := FFormDraft_takes.binds rfl (ps := ["self", "parts"]) fun _ _ _ _ _ _ us hl => match us, hl with | [_, _], _ => rfl
  have eFormDraft_takes : Meth K C_FormDraft "takes" f_FormDraft_takes := ⟨ma_takes_FormDraft, mf_takes_FormDraft, mk_takes_FormDraft⟩
  have FFormDraft_is_whole : C8.Fun K "is_whole" "FormDraft.is_whole" stC_FormDraft_is_whole f_FormDraft_is_whole _ := ⟨⟨_, _, _, _, _, _, _, _, _, _, rfl, ml_is_whole_FormDraft, mc_is_whole_FormDraft⟩⟩
  have bFormDraft_is_whole := FFormDraft_is_whole.binds rfl (ps := ["self"]) fun _ _ _ _ _ _ us hl => match us, hl with | [_], _ => rfl
  have eFormDraft_is_whole : Meth K C_FormDraft "is_whole" f_FormDraft_is_whole := ⟨ma_is_whole_FormDraft, mf_is_whole_FormDraft, mk_is_whole_FormDraft⟩
  have FFormDraft_made : C8.Fun K "made" "FormDraft.made" stC_FormDraft_made f_FormDraft_made _ := ⟨⟨_, _, _, _, _, _, _, _, _, _, rfl, ml_made_FormDraft, mc_made_FormDraft⟩⟩
  have bFormDraft_made := FFormDraft_made.binds rfl (ps := ["self"]) fun _ _ _ _ _ _ us hl => match us, hl with | [_], _ => rfl
  have eFormDraft_made : Meth K C_FormDraft "made" f_FormDraft_made := ⟨ma_made_FormDraft, mf_made_FormDraft, mk_made_FormDraft⟩
  have FFormDraft__takes_groups : C8.Fun K "_takes_groups" "FormDraft._takes_groups" stC_FormDraft__takes_groups f_FormDraft__takes_groups _ := ⟨⟨_, _, _, _, _, _, _, _, _, _, rfl, ml__takes_groups_FormDraft, mc__takes_groups_FormDraft⟩⟩
  have bFormDraft__takes_groups := FFormDraft__takes_groups.binds rfl (ps := ["self", "groups"]) fun _ _ _ _ _ _ us hl => match us, hl with | [_, _], _ => rfl
  have eFormDraft__takes_groups : Meth K C_FormDraft "_takes_groups" f_FormDraft__takes_groups := ⟨ma__takes_groups_FormDraft, mf__takes_groups_FormDraft, mk__takes_groups_FormDraft⟩
  have FFormDraft__takes_row : C8.Fun K "_takes_row" "FormDraft._takes_row" stC_FormDraft__takes_row f_FormDraft__takes_row _ := ⟨⟨_, _, _, _, _, _, _, _, _, _, rfl, ml__takes_row_FormDraft, mc__takes_row_FormDraft⟩⟩
  have bFormDraft__takes_row := FFormDraft__takes_row.binds rfl (ps := ["self", "row"]) fun _ _ _ _ _ _ us hl => match us, hl with | [_, _], _ => rfl
  have eFormDraft__takes_row : Meth K C_FormDraft "_takes_row" f_FormDraft__takes_row := ⟨ma__takes_row_FormDraft, mf__takes_row_FormDraft, mk__takes_row_FormDraft⟩
  have FFormDraft__takes_good : C8.Fun K "_takes_good" "FormDraft._takes_good" stC_FormDraft__takes_good f_FormDraft__takes_good _ := ⟨⟨_, _, _, _, _, _, _, _, _, _, rfl, ml__takes_good_FormDraft, mc__takes_good_FormDraft⟩⟩
  have bFormDraft__takes_good := FFormDraft__takes_good.binds rfl (ps := ["self", "good"]) fun _ _ _ _ _ _ us hl => match us, hl with | [_, _], _ => rfl
  have eFormDraft__takes_good : Meth K C_FormDraft "_takes_good" f_FormDraft__takes_good := ⟨ma__takes_good_FormDraft, mf__takes_good_FormDraft, mk__takes_good_FormDraft⟩
  have m_list := PySem.W.mg_none_of X G z_list
  have m_int := PySem.W.mg_none_of X G z_int
  have m_len := PySem.W.mg_none_of X G z_len
  have m_range := PySem.W.mg_none_of X G z_range
  have m_tuple := PySem.W.mg_none_of X G z_tuple
  have m_isinstance := PySem.W.mg_none_of X G z_isinstance
  have m_str := PySem.W.mg_none_of X G z_str
  have m_repr := PySem.W.mg_none_of X G z_repr
  have m_sorted := PySem.W.mg_none_of X G z_sorted
  have m_all := PySem.W.mg_none_of X G z_all
  have m_zip := PySem.W.mg_none_of X G z_zip
  have m_set := PySem.W.mg_none_of X G z_set
  have m_max := PySem.W.mg_none_of X G z_max
  have m_enumerate := PySem.W.mg_none_of X G z_enumerate
  have B : BN2 mg := { list := m_list, int := m_int, len := m_len, range := m_range, tuple := m_tuple, isi := m_isinstance, str := m_str }
  have NC : NumC K mg N_NUMBERS := { mgN := PySem.W.mg_of X G nw_NUMBERS, obj := ⟨_, _, _, nl_NUMBERS, (by show 12 ≤ sizeLine; decide), .cons ⟨_, rfl⟩ (.cons ⟨_, rfl⟩ (.cons ⟨_, rfl⟩ (.cons ⟨_, rfl⟩ (.cons ⟨_, rfl⟩ (.cons ⟨_, rfl⟩ (.cons ⟨_, rfl⟩ (.cons ⟨_, rfl⟩ (.cons ⟨_, rfl⟩ (.cons ⟨_, rfl⟩ (.cons ⟨_, rfl⟩ (.cons ⟨_, rfl⟩ (.nil))))))))))))⟩ }
  have TW : WTxt K mg C_WordsDraft := { cl := clWordsDraft, nw := xn0_WordsDraft, kw := ⟨_, PySem.W.mg_of X G s_KINDS_OF_WORDS⟩ }
  have TF : FTxt K mg C_FormDraft := { cl := clFormDraft, ng := xn0_FormDraft, nt := xn1_FormDraft, nd := xn2_FormDraft, ms := ⟨_, PySem.W.mg_of X G s_MOST_FORM_STATES⟩ }
  have TG : GTxt mg := { abc := ⟨_, PySem.W.mg_of X G s_ALPHABET⟩, mx := ⟨_, PySem.W.mg_of X G s_MOST_GROUPS⟩ }
  refine ⟨PySem.W.fnOf "law" "law" (C8.fnArgs st_law_) (fnBody st_law_) (fnScope st_law_) .none kV18 dc18 pm18 an18 cd18 ct18, fun s u => .of_eq rfl, fun base _ _ => ?_⟩
  have cpen : Cal l.prog w K mg base 1 "_law_pen" (spPen K) [] := cal_pen D_law_pen b_law_pen B.toBN
  have cfresh : Cal l.prog w K mg base 1 "_law_fresh" spFresh [] := cal_fresh D_law_fresh b_law_fresh B.toBN
  have cdraw : Cal l.prog w K mg base 2 "_law_draw" spDraw [] := cal_draw D_law_draw b_law_draw B.toBN cfresh
  have cone : Cal l.prog w K mg base 3 "_law_one_of" (spOne K) [] := cal_one D_law_one_of b_law_one_of B.toBN cdraw
  have cword : Cal l.prog w K mg base 3 "_law_word" spWord [] := cal_word D_law_word b_law_word B.toBN m_tuple cdraw
  have cline : Cal l.prog w K mg base 1 "_law_line" spLine [] := cal_line D_law_line b_law_line B
  have clform : Cal l.prog w K mg base 3 "_law_form" spLForm [] := cal_lform D_law_form b_law_form B m_sorted cdraw
  have cftext : Cal l.prog w K mg base 2 "_law_form_text" spFText [] := cal_ftext D_law_form_text b_law_form_text B cline
  have cwritten : Cal l.prog w K mg base 1 "_written" spWritten [] := cal_written D_written b_written B
  have cfw : Cal l.prog w K mg base 2 "format_words" spFWords [] := cal_fwords Dformat_words bformat_words cwritten
  have cff : Cal l.prog w K mg base 2 "format_form" spFForm [] := cal_fform Dformat_form bformat_form cwritten
  have cnums : Cal l.prog w K mg base 1 "_numbers_of" spNumsOf [] := cal_numsof D_numbers_of b_numbers_of B m_all NC
  have kw : C8.Mak l.prog w K mg base 1 "WordsDraft" C_WordsDraft (spWInit C_WordsDraft) [] := mak_words MWordsDraft hWordsDraft TW FWordsDraft___init__ bWordsDraft___init__
  have wt : C8.Met l.prog w K mg base 2 C_WordsDraft "takes" (spWTakes C_WordsDraft) [] := met_wtakes TW eWordsDraft_takes FWordsDraft_takes bWordsDraft_takes cnums
  have ww : C8.Met l.prog w K mg base 1 C_WordsDraft "is_whole" spWWhole [] := met_wwhole clWordsDraft eWordsDraft_is_whole FWordsDraft_is_whole bWordsDraft_is_whole
  have wm : C8.Met l.prog w K mg base 1 C_WordsDraft "made" (spWMade C_WordsDraft) [] := met_wmade TW B eWordsDraft_made FWordsDraft_made bWordsDraft_made
  have crw : Cal l.prog w K mg base 3 "_read" (spReadW C_WordsDraft) [] := cal_readW D_read b_read m_enumerate wt ww
  have cpw : Cal l.prog w K mg base 4 "parse_words" spPWords [] := cal_pwords Dparse_words bparse_words kw crw wm
  have cas : Cal l.prog w K mg base 1 "ascends" spAscS [] := cal_ascS Dascends bascends m_all m_zip
  have cai : Cal l.prog w K mg base 1 "ascends" spAscI [] := cal_ascI Dascends bascends m_all m_zip
  have cig : Cal l.prog w K mg base 2 "_is_group" spIsGroup [] := cal_isgroup D_is_group b_is_group B m_all TG cas
  have cag : Cal l.prog w K mg base 3 "are_groups" spAreGroups [] := cal_aregroups Dare_groups bare_groups B m_all m_set TG cig
  have kf : C8.Mak l.prog w K mg base 1 "FormDraft" C_FormDraft (spFInit C_FormDraft) [] := mak_form MFormDraft hFormDraft TF FFormDraft___init__ bFormDraft___init__
  have fw : C8.Met l.prog w K mg base 1 C_FormDraft "is_whole" (spFWhole C_FormDraft) [] := met_fwhole TF eFormDraft_is_whole FFormDraft_is_whole bFormDraft_is_whole
  have fm : C8.Met l.prog w K mg base 1 C_FormDraft "made" (spFMade C_FormDraft) [] := met_fmade TF B eFormDraft_made FFormDraft_made bFormDraft_made
  have fg : C8.Met l.prog w K mg base 4 C_FormDraft "_takes_groups" (spTGroups C_FormDraft) [] := met_tgroups TF B eFormDraft__takes_groups FFormDraft__takes_groups bFormDraft__takes_groups cag
  have fr : C8.Met l.prog w K mg base 1 C_FormDraft "_takes_row" (spTRow C_FormDraft) [] := met_trow TF B eFormDraft__takes_row FFormDraft__takes_row bFormDraft__takes_row
  have fd : C8.Met l.prog w K mg base 2 C_FormDraft "_takes_good" (spTGood C_FormDraft) [] := met_tgood TF B m_max eFormDraft__takes_good FFormDraft__takes_good bFormDraft__takes_good cai
  have ft : C8.Met l.prog w K mg base 5 C_FormDraft "takes" (spFTakes C_FormDraft) [] := met_ftakes TF B eFormDraft_takes FFormDraft_takes bFormDraft_takes cnums fg fr fd
  have crf : Cal l.prog w K mg base 6 "_read" (spReadF C_FormDraft) [] := cal_readF D_read b_read m_enumerate ft fw
  have cpf : Cal l.prog w K mg base 7 "parse_form" spPForm [] := cal_pform Dparse_form bparse_form kf crf fm
  exact fn_law F18 B m_repr cpen cone cword cline clform cftext cfw cff cpw cpf
end Toy

open PySem PySem.W PyProof.Rows in
set_option maxRecDepth 100000 in
set_option maxHeartbeats 0 in
theorem PySem.Challenge.cw_fewtests_k92_words_and_forms_written_and_holds : PySem.Challenge.rw_fewtests_k92_words_and_forms_written_and.Holds := by
  w_on; o_law; k_head; (case hw => w_witness2)
  k_fill
  refine Toy.walkG (l := PySem.Challenge.rw_fewtests_k92_words_and_forms_written_and) (k := 8) (sp := Toy.spLaw) (x := "script") rfl rfl ⟨rfl, by decide, by decide⟩ (fun w h Y => PySem.W.kIn_of Y) ?F (fun K H a ns few sq => ⟨a, ns, rfl, sq, fun _ => rfl⟩)
  case F =>
    intro w mg fa h KX G hmg
    refine' Toy.all_mk KX G hmg ?a0 ?l0 ?c0 ?k0 ?a1 ?l1 ?c1 ?k1 ?a2 ?l2 ?c2 ?k2 ?a3 ?l3 ?c3 ?k3 ?a4 ?l4 ?c4 ?k4 ?a5 ?l5 ?c5 ?k5 ?a6 ?l6 ?c6 ?k6 ?a7 ?l7 ?c7 ?k7 ?a8 ?l8 ?c8 ?k8 ?a9 ?l9 ?c9 ?k9 ?a10 ?l10 ?c10 ?k10 ?a11 ?l11 ?c11 ?k11 ?a12 ?l12 ?c12 ?k12 ?a13 ?l13 ?c13 ?k13 ?a14 ?l14 ?c14 ?k14 ?a15 ?l15 ?c15 ?k15 ?a16 ?l16 ?c16 ?k16 ?a17 ?l17 ?c17 ?k17 ?a18 ?l18 ?c18 ?k18 ?s_ALPHABET ?s_MOST_GROUPS ?s_MOST_FORM_STATES ?s_KINDS_OF_WORDS ?z_list ?z_int ?z_len ?z_range ?z_tuple ?z_isinstance ?z_str ?z_repr ?z_sorted ?z_all ?z_zip ?z_set ?z_max ?z_enumerate ?xw_WordsDraft ?xpg_WordsDraft ?xhd_WordsDraft ?xpo_WordsDraft ?xsa_WordsDraft ?xmk_WordsDraft ?xkp_WordsDraft ?xn0_WordsDraft ?ma___init___WordsDraft ?mf___init___WordsDraft ?mk___init___WordsDraft ?ml___init___WordsDraft ?mc___init___WordsDraft ?ma_takes_WordsDraft ?mf_takes_WordsDraft ?mk_takes_WordsDraft ?ml_takes_WordsDraft ?mc_takes_WordsDraft ?ma_is_whole_WordsDraft ?mf_is_whole_WordsDraft ?mk_is_whole_WordsDraft ?ml_is_whole_WordsDraft ?mc_is_whole_WordsDraft ?ma_made_WordsDraft ?mf_made_WordsDraft ?mk_made_WordsDraft ?ml_made_WordsDraft ?mc_made_WordsDraft ?xw_FormDraft ?xpg_FormDraft ?xhd_FormDraft ?xpo_FormDraft ?xsa_FormDraft ?xmk_FormDraft ?xkp_FormDraft ?xn0_FormDraft ?xn1_FormDraft ?xn2_FormDraft ?ma___init___FormDraft ?mf___init___FormDraft ?mk___init___FormDraft ?ml___init___FormDraft ?mc___init___FormDraft ?ma_takes_FormDraft ?mf_takes_FormDraft ?mk_takes_FormDraft ?ml_takes_FormDraft ?mc_takes_FormDraft ?ma_is_whole_FormDraft ?mf_is_whole_FormDraft ?mk_is_whole_FormDraft ?ml_is_whole_FormDraft ?mc_is_whole_FormDraft ?ma_made_FormDraft ?mf_made_FormDraft ?mk_made_FormDraft ?ml_made_FormDraft ?mc_made_FormDraft ?ma__takes_groups_FormDraft ?mf__takes_groups_FormDraft ?mk__takes_groups_FormDraft ?ml__takes_groups_FormDraft ?mc__takes_groups_FormDraft ?ma__takes_row_FormDraft ?mf__takes_row_FormDraft ?mk__takes_row_FormDraft ?ml__takes_row_FormDraft ?mc__takes_row_FormDraft ?ma__takes_good_FormDraft ?mf__takes_good_FormDraft ?mk__takes_good_FormDraft ?ml__takes_good_FormDraft ?mc__takes_good_FormDraft ?nw_NUMBERS ?nl_NUMBERS
    (case a0 => k_is)
    (case l0 => k_is)
    (case c0 => k_is)
    (case k0 => k_is)
    (case a1 => k_is)
    (case l1 => k_is)
    (case c1 => k_is)
    (case k1 => k_is)
    (case a2 => k_is)
    (case l2 => k_is)
    (case c2 => k_is)
    (case k2 => k_is)
    (case a3 => k_is)
    (case l3 => k_is)
    (case c3 => k_is)
    (case k3 => k_is)
    (case a4 => k_is)
    (case l4 => k_is)
    (case c4 => k_is)
    (case k4 => k_is)
    (case a5 => k_is)
    (case l5 => k_is)
    (case c5 => k_is)
    (case k5 => k_is)
    (case a6 => k_is)
    (case l6 => k_is)
    (case c6 => k_is)
    (case k6 => k_is)
    (case a7 => k_is)
    (case l7 => k_is)
    (case c7 => k_is)
    (case k7 => k_is)
    (case a8 => k_is)
    (case l8 => k_is)
    (case c8 => k_is)
    (case k8 => k_is)
    (case a9 => k_is)
    (case l9 => k_is)
    (case c9 => k_is)
    (case k9 => k_is)
    (case a10 => k_is)
    (case l10 => k_is)
    (case c10 => k_is)
    (case k10 => k_is)
    (case a11 => k_is)
    (case l11 => k_is)
    (case c11 => k_is)
    (case k11 => k_is)
    (case a12 => k_is)
    (case l12 => k_is)
    (case c12 => k_is)
    (case k12 => k_is)
    (case a13 => k_is)
    (case l13 => k_is)
    (case c13 => k_is)
    (case k13 => k_is)
    (case a14 => k_is)
    (case l14 => k_is)
    (case c14 => k_is)
    (case k14 => k_is)
    (case a15 => k_is)
    (case l15 => k_is)
    (case c15 => k_is)
    (case k15 => k_is)
    (case a16 => k_is)
    (case l16 => k_is)
    (case c16 => k_is)
    (case k16 => k_is)
    (case a17 => k_is)
    (case l17 => k_is)
    (case c17 => k_is)
    (case k17 => k_is)
    (case a18 => k_is)
    (case l18 => k_is)
    (case c18 => k_is)
    (case k18 => k_is)
    (case s_ALPHABET => k_is)
    (case s_MOST_GROUPS => k_is)
    (case s_MOST_FORM_STATES => k_is)
    (case s_KINDS_OF_WORDS => k_is)
    (case z_list => k_is)
    (case z_int => k_is)
    (case z_len => k_is)
    (case z_range => k_is)
    (case z_tuple => k_is)
    (case z_isinstance => k_is)
    (case z_str => k_is)
    (case z_repr => k_is)
    (case z_sorted => k_is)
    (case z_all => k_is)
    (case z_zip => k_is)
    (case z_set => k_is)
    (case z_max => k_is)
    (case z_enumerate => k_is)
    (case xw_WordsDraft => k_is)
    (case xpg_WordsDraft => k_is)
    (case xhd_WordsDraft => k_is)
    (case xpo_WordsDraft => k_is)
    (case xsa_WordsDraft => k_is)
    (case xmk_WordsDraft => k_is)
    (case xkp_WordsDraft => k_is)
    (case xn0_WordsDraft => k_is)
    (case ma___init___WordsDraft => k_is)
    (case mf___init___WordsDraft => k_is)
    (case mk___init___WordsDraft => k_is)
    (case ml___init___WordsDraft => k_is)
    (case mc___init___WordsDraft => k_is)
    (case ma_takes_WordsDraft => k_is)
    (case mf_takes_WordsDraft => k_is)
    (case mk_takes_WordsDraft => k_is)
    (case ml_takes_WordsDraft => k_is)
    (case mc_takes_WordsDraft => k_is)
    (case ma_is_whole_WordsDraft => k_is)
    (case mf_is_whole_WordsDraft => k_is)
    (case mk_is_whole_WordsDraft => k_is)
    (case ml_is_whole_WordsDraft => k_is)
    (case mc_is_whole_WordsDraft => k_is)
    (case ma_made_WordsDraft => k_is)
    (case mf_made_WordsDraft => k_is)
    (case mk_made_WordsDraft => k_is)
    (case ml_made_WordsDraft => k_is)
    (case mc_made_WordsDraft => k_is)
    (case xw_FormDraft => k_is)
    (case xpg_FormDraft => k_is)
    (case xhd_FormDraft => k_is)
    (case xpo_FormDraft => k_is)
    (case xsa_FormDraft => k_is)
    (case xmk_FormDraft => k_is)
    (case xkp_FormDraft => k_is)
    (case xn0_FormDraft => k_is)
    (case xn1_FormDraft => k_is)
    (case xn2_FormDraft => k_is)
    (case ma___init___FormDraft => k_is)
    (case mf___init___FormDraft => k_is)
    (case mk___init___FormDraft => k_is)
    (case ml___init___FormDraft => k_is)
    (case mc___init___FormDraft => k_is)
    (case ma_takes_FormDraft => k_is)
    (case mf_takes_FormDraft => k_is)
    (case mk_takes_FormDraft => k_is)
    (case ml_takes_FormDraft => k_is)
    (case mc_takes_FormDraft => k_is)
    (case ma_is_whole_FormDraft => k_is)
    (case mf_is_whole_FormDraft => k_is)
    (case mk_is_whole_FormDraft => k_is)
    (case ml_is_whole_FormDraft => k_is)
    (case mc_is_whole_FormDraft => k_is)
    (case ma_made_FormDraft => k_is)
    (case mf_made_FormDraft => k_is)
    (case mk_made_FormDraft => k_is)
    (case ml_made_FormDraft => k_is)
    (case mc_made_FormDraft => k_is)
    (case ma__takes_groups_FormDraft => k_is)
    (case mf__takes_groups_FormDraft => k_is)
    (case mk__takes_groups_FormDraft => k_is)
    (case ml__takes_groups_FormDraft => k_is)
    (case mc__takes_groups_FormDraft => k_is)
    (case ma__takes_row_FormDraft => k_is)
    (case mf__takes_row_FormDraft => k_is)
    (case mk__takes_row_FormDraft => k_is)
    (case ml__takes_row_FormDraft => k_is)
    (case mc__takes_row_FormDraft => k_is)
    (case ma__takes_good_FormDraft => k_is)
    (case mf__takes_good_FormDraft => k_is)
    (case mk__takes_good_FormDraft => k_is)
    (case ml__takes_good_FormDraft => k_is)
    (case mc__takes_good_FormDraft => k_is)
    (case nw_NUMBERS => k_is)
    (case nl_NUMBERS => k_is)
