import PyProof.Rows.All
import Wide.All
import OpenK.AllK
import Wide.FinOn
import PyProof.Draws
import PyProof.Rows.SortShellAny
import HandS.Codes
import HandS.Conv
import HandS.DictComp
import HandS.ExcValue
import HandS.Flow
import HandS.ForMost
import HandS.GenList
import HandS.GenYield
import HandS.IsInst
import HandS.Replace
import HandS.Star
import HandS.Style
import HandS.TupAny
import HandS.TupMul
import HandS.Wide
import HandS.WideBits
import HandS.Zip
import PySem.Challenge.RW_fewtests_k09_shadows_of_words
set_option Elab.async false
set_option linter.all false
set_option maxRecDepth 100000
set_option maxHeartbeats 2000000
set_option pp.maxSteps 1500
set_option pp.deepTerms false
namespace Toy
open PySem L2
open C8 (Cal cal0 pe_c pss_cut fnScope fnBody fnScope_by)
/-! ### the text by places -/
def top (i : Nat) : Stmt := PySem.Challenge.pw_fewtests_k09_shadows_of_words.main.body.getD i (.Pass ⟨0, 0, 0, 0⟩)
abbrev st_behind_ : Stmt := top 1
abbrev st_behind_from_ : Stmt := top 2
abbrev st_filled : Stmt := top 3
abbrev st_made : Stmt := top 4
abbrev st_number_of_ : Stmt := top 7
abbrev st_size_of_ : Stmt := top 8
abbrev st_shadow_ : Stmt := top 9
abbrev st_pair_shadow_ : Stmt := top 10
abbrev st_power_of_ : Stmt := top 11
abbrev st_measures_of_ : Stmt := top 12
abbrev st_shadow_of_ : Stmt := top 13
abbrev st_law_pen : Stmt := top 15
abbrev st_law_fresh : Stmt := top 16
abbrev st_law_draw : Stmt := top 17
abbrev st_law_one_of : Stmt := top 18
abbrev st_law_piece : Stmt := top 19
abbrev st_law_normal : Stmt := top 20
abbrev st_law_fill : Stmt := top 21
abbrev st_law_fills : Stmt := top 22
abbrev st_law_end : Stmt := top 23
abbrev st_law_writer : Stmt := top 24
abbrev st_law_word : Stmt := top 25
abbrev st_law_words : Stmt := top 26
abbrev st_law_made : Stmt := top 27
abbrev st_law_onward : Stmt := top 28
abbrev st_law_behind : Stmt := top 29
abbrev st_law_renamed : Stmt := top 30
abbrev st_law_exchanged : Stmt := top 31
abbrev st_law_doubled : Stmt := top 32
abbrev st_law_burdened : Stmt := top 33
abbrev st_law_twin : Stmt := top 34
abbrev st_law_numbered : Stmt := top 35
abbrev st_law_shade : Stmt := top 36
abbrev st_law_joint : Stmt := top 37
abbrev st_law_near : Stmt := top 38
abbrev st_law_two : Stmt := top 39
abbrev st_law_word_right : Stmt := top 40
abbrev st_law_ : Stmt := top 41

theorem iteT' {b : Bool} {A B : Prop} (e : b = true) (h : A) : if b = true then A else B := by
  rw [if_pos e]
  exact h
theorem iteF' {b : Bool} {A B : Prop} (e : b = false) (h : B) : if b = true then A else B := by
  rw [e]
  exact iteF h
/-! ### the pen -/
/-- the pen at p: cells at c (some ints), a place, what is left -/
def Pen (H : Hp) (p c : Addr) : Prop := ∃ (ns : List Int) (i j : Int), H p = some (.lst [.ref c, .int i, .int j]) ∧ H c = some (.lst (ns.map V.int))
theorem pen_ne {H : Hp} {p c : Addr} {ns : List Int} {i j : Int} (h : H p = some (.lst [.ref c, .int i, .int j])) (h2 : H c = some (.lst (ns.map V.int))) : p ≠ c := by
  refine ne_of h h2 fun e => ?_
  injection e with e
  cases ns with
  | nil => cases e
  | cons a r =>
    rw [List.map_cons] at e
    injection e with e1 e2
    cases e1
/-- all but p stands as it stood, the pen at p stands -/
structure Kp (p c : Addr) (H H' : Hp) : Prop where
  but : ∀ b o, b ≠ p → H b = some o → H' b = some o
  pen : Pen H' p c
theorem Kp.rfl' {p c : Addr} {H : Hp} (h : Pen H p c) : Kp p c H H := ⟨fun _ _ _ e => e, h⟩
theorem Kp.trans {p c : Addr} {H H1 H2 : Hp} (a : Kp p c H H1) (b : Kp p c H1 H2) : Kp p c H H2 := ⟨fun x o n e => b.but x o n (a.but x o n e), b.pen⟩
theorem Pen.ne {H : Hp} {p c q : Addr} (h : Pen H p c) (hq : H q = none) : q ≠ p := by
  obtain ⟨ns, i, j, h1, _⟩ := h
  exact (ne_of_none h1 hq).symm
theorem Pen.neC {H : Hp} {p c q : Addr} (h : Pen H p c) (hq : H q = none) : q ≠ c := by
  obtain ⟨ns, i, j, _, h1⟩ := h
  exact (ne_of_none h1 hq).symm
theorem Pen.put {H : Hp} {p c q : Addr} {o : HO} (h : Pen H p c) (n1 : q ≠ p) (n2 : q ≠ c) : Pen (upd H q o) p c := by
  obtain ⟨ns, i, j, h1, h2⟩ := h
  exact ⟨ns, i, j, by rw [upd_ne n1.symm]; exact h1, by rw [upd_ne n2.symm]; exact h2⟩
theorem Pen.new {H : Hp} {p c q : Addr} {o : HO} (h : Pen H p c) (hq : H q = none) : Pen (upd H q o) p c := h.put (h.ne hq) (h.neC hq)
theorem Kp.new {H H' : Hp} {p c q : Addr} {o : HO} (h : Kp p c H H') (hq : H' q = none) : Kp p c H (upd H' q o) :=
  ⟨fun b u n e => by rw [upd_ne (ne_of_none (h.but b u n e) hq)]; exact h.but b u n e, h.pen.new hq⟩
/-- something made since is changed -/
theorem Kp.put {H H' : Hp} {p c q : Addr} {o : HO} (h : Kp p c H H') (hP : Pen H p c) (hq : H q = none) : Kp p c H (upd H' q o) :=
  ⟨fun b u n e => by rw [upd_ne (ne_of_none e hq)]; exact h.but b u n e, h.pen.put (hP.ne hq) (hP.neC hq)⟩
theorem Kp.free {H H' : Hp} {p c q : Addr} (h : Kp p c H H') (hq : H' q = none) : H q = none := by
  cases e : H q with
  | none => rfl
  | some o =>
    rw [h.but q o (h.pen.ne hq) e] at hq
    cases hq
theorem Kp.seqL {K : PySem.W.Frag} {p c a : Addr} {H H' : Hp} {xs : List V} (k : Kp p c H H') (n : a ≠ p) (h : SqL K H a xs) : SqL K H' a xs := by
  rcases h with (h | ⟨o, h⟩) | h
  · exact .inl (.inl (k.but _ _ n h))
  · exact .inl (.inr ⟨o, k.but _ _ n h⟩)
  · exact .inr h

/-- the built-in names that these defs read -/
structure BN (mg : Str → Option Value) : Prop where
  list : mg "list" = none
  int : mg "int" = none
  len : mg "len" = none
  range : mg "range" = none

def spPen (K : PySem.W.Frag) : Sp := fun vs H Q _ => ∃ (a : Addr) (ns : List Int), vs = [.ref a] ∧ SqL K H a (ns.map V.int) ∧
  ∀ H' p c, Same H H' → Pen H' p c → H p = none → Q (.ref p) H'
def spFresh : Sp := fun vs H Q _ => ∃ p c : Addr, vs = [.ref p] ∧ Pen H p c ∧ ∀ (z : Int) H', Kp p c H H' → Q (.int z) H'
/-- a number from 0 to b - 1 -/
def spDraw : Sp := fun vs H Q _ => ∃ (p c : Addr) (b : Int), vs = [.ref p, .int b] ∧ Pen H p c ∧ 0 < b ∧ b.natAbs.log2 < 9000 ∧
  ∀ (d : Int) H', 0 ≤ d → d < b → Kp p c H H' → Q (.int d) H'

theorem sc_pen : FnScope ["script"] ["script"] (fnScope st_law_pen) := fnScope_by (by decide +kernel)
theorem sc_fresh : FnScope ["pen", "place", "cells", "cell", "prime", "state", "found", "lap"] ["pen"] (fnScope st_law_fresh) := fnScope_by (by decide +kernel)
theorem sc_draw : FnScope ["pen", "bound", "digit"] ["pen", "bound"] (fnScope st_law_draw) := fnScope_by (by decide +kernel)

/-- a list of ints is data -/
theorem dp_ints {K : PySem.W.Frag} {H : Hp} : ∀ ns : List Int, DpAll K H (ns.map V.int) (ns.map PyData.int)
  | [] => .nil
  | n :: r => .cons (.int n) (dp_ints r)
theorem shaped_ints (ns : List Int) : SeqAt.shaped (.list (ns.map PyData.int)) = true := by
  have h : ∀ l : List Int, PyData.canLayAll0 (l.map PyData.int) = true ∧ PyData.depthAll (l.map PyData.int) = 0 := by
    intro l
    induction l with
    | nil => exact ⟨by simp only [List.map_nil, PyData.canLayAll0], by simp only [List.map_nil, PyData.depthAll]⟩
    | cons a r ih => exact ⟨by simp only [List.map_cons, PyData.canLayAll0, PyData.canLay0, ih.1, Bool.and_self], by simp only [List.map_cons, PyData.depthAll, PyData.depth, ih.2, Nat.max_self]⟩
  unfold SeqAt.shaped
  simp only [PyData.canLay0, PyData.depth, (h ns).1, (h ns).2, Bool.true_and]
  decide
theorem ints_ne_nil (ns : List Int) : (!PyData.eqv (.list (ns.map PyData.int)) (.list [])) = !ns.isEmpty := by
  cases ns with
  | nil => simp only [List.map_nil, PyData.eqv, PyData.eqvAll, List.isEmpty_nil]
  | cons a r => simp only [List.map_cons, PyData.eqv, PyData.eqvAll, List.isEmpty_cons]
theorem prime_ok : (-(2 ^ 64) < (2305843009213693951 : Int) ∧ (2305843009213693951 : Int) < 2 ^ 64) := by decide

section
variable {P : Program} {w : World} {K : PySem.W.Frag} {mg : Str → Option Value} {base : Heap} {f : Addr} {fd : FuncData}
theorem cal_pen (F : C8.Def K mg "_law_pen" st_law_pen f fd) (b : Binds K fd ["script"] []) (B : BN mg) : Cal P w K mg base 1 "_law_pen" (spPen K) [] := by
  refine cal0 F b .nil sc_pen (fun vs H Q E h => ?_) (fun cdv A outer s H vs Q E hr h => ?_)
  · obtain ⟨a, ns, rfl, _⟩ := h
    rfl
  · obtain ⟨a, ns, rfl, hS, k⟩ := h
    refine ⟨_, pss_one (ps_ret (pe_lst (pa_cons (pe_callTy call_list_of (by rfl) B.list (by decide +kernel) (pa_cons (pe_slice sl_list (pv 0) po_none (po_some pe_int)) pa_nil)) (pa_cons pe_int (pa_cons pe_int pa_nil))))), ?_⟩
    refine ⟨_, rfl, _, rfl, a, _, rfl, hS, fun p hp => ?_⟩
    refine ⟨p, _, rfl, .inl (SqL.of upd_same), fun l hl => ?_⟩
    refine ⟨(by show 3 ≤ sizeLine; decide), fun q hq => ?_⟩
    have hl0 : H l = none := by
      have n : l ≠ p := fun z => by
        rw [z, upd_same] at hl
        cases hl
      rw [upd_ne n] at hl
      exact hl
    have s1 : Same H (upd (upd H p (.lst (cutV (ns.map V.int) none (some 63)))) l (.lst (cutV (ns.map V.int) none (some 63)))) := fun b o e => by
      rw [upd_ne (ne_of_none e hl0), upd_ne (ne_of_none e hp)]
      exact e
    obtain ⟨ms, hms⟩ : ∃ ms : List Int, cutV (ns.map V.int) none (some 63) = ms.map V.int := by
      unfold cutV
      rw [← List.map_drop, ← List.map_take]
      exact ⟨_, rfl⟩
    refine k _ q l (fun b o e => ?_) ⟨ms, 0, 0, upd_same, ?_⟩ (s1.free hq)
    · rw [upd_ne (ne_of_none (s1 b o e) hq)]
      exact s1 b o e
    · have n : l ≠ q := fun z => by
        rw [← z, upd_same] at hq
        cases hq
      rw [upd_ne n, upd_same, hms]
theorem cal_fresh (F : C8.Def K mg "_law_fresh" st_law_fresh f fd) (b : Binds K fd ["pen"] []) (B : BN mg) : Cal P w K mg base 1 "_law_fresh" spFresh [] := by
  refine cal0 F b .nil sc_fresh (fun vs H Q E h => ?_) (fun cdv A outer s H vs Q E hr h => ?_)
  · obtain ⟨p, c, rfl, _⟩ := h
    rfl
  · obtain ⟨p, c, rfl, ⟨ns, i, j, hp, hc⟩, k⟩ := h
    have hpc := pen_ne hp hc
    refine ⟨_, pss_cons (ps_par (i := 1) (j := 2) rfl sc_fresh.nd rfl rfl (by decide) rfl rfl (pa_cons (pe_ix ix_list (pv 0) pe_int (fun _ _ => rfl)) (pa_cons (pe_ix ix_list (pv 0) pe_int (fun _ _ => rfl)) pa_nil)) (by rfl))
      (pss_cons (ps_asg (pe_op op_add (pv 1) pe_int) (pg_sub (pv 0) pe_int set_list))
      (pss_cut (ps_set (i := 3) sc_fresh.nd rfl (Or.inl rfl) (pe_ifExp (pt_cmpR (op_neD hr.units) (pv 2) (pe_lst pa_nil) (nomark _)) (pe_ix ix_list (pv 2) (pe_op op_mod (pe_callTy call_int1 (by rfl) B.int (by decide +kernel) (pa_cons (pv 1) pa_nil)) (pe_callB call_len_seq (by rfl) B.len PySem.boot_len (pa_cons (pv 2) pa_nil))) (fun _ _ => rfl)) pe_int))
      (pss_cut (ps_if (PW.pt (pw_and (pt_cmpR op_lt (pv 1) (pe_callB call_len_seq (by rfl) B.len PySem.boot_len (pa_cons (pv 2) pa_nil)) (nomark _)) (pw_and1 (pt_cmpR op_ge (pv 3) (pe_op op_pow pe_int pe_int) (nomark _))))) (pss_one (ps_ret (pe_op op_sub (pv 3) (pe_op op_pow pe_int pe_int)))) pss_nil)
      (pss_cons (ps_set (i := 4) sc_fresh.nd rfl (Or.inl rfl) pe_int)
      (pss_cons (ps_set (i := 5) sc_fresh.nd rfl (Or.inl rfl) (pe_op op_mod (pe_callTy call_int1 (by rfl) B.int (by decide +kernel) (pa_cons (pe_op op_add (pe_op op_add (pe_op op_mul (pv 3) pe_int) (pe_op op_mul pe_int (pv 1))) pe_int) pa_nil)) (pv 4)))
      (pss_cons (ps_set (i := 6) sc_fresh.nd rfl (Or.inl rfl) (pv 5))
      (pss_cons (ps_for PassesOwn.never rfl (pi_range1 rfl B.range (pa_cons pe_int pa_nil)) (pg_name (i := 7) sc_fresh.nd rfl (Or.inl rfl))
        (pss_cons (ps_set (i := 5) sc_fresh.nd rfl (Or.inl rfl) (pe_op op_mod (pe_callTy call_int1 (by rfl) B.int (by decide +kernel) (pa_cons (pe_op op_add (pe_op op_add (pe_op op_mul (pv 5) (pv 5)) (pe_op op_mul (pe_op op_mul pe_int (pe_op op_add (pv 7) pe_int)) (pe_op op_add (pv 1) pe_int))) (pv 3)) pa_nil)) (pv 4)))
        (pss_one (ps_set (i := 6) sc_fresh.nd rfl (Or.inl rfl) (pe_op op_add (pe_op op_mul (pv 6) (pv 4)) (pv 5))))))
      (pss_one (ps_ret (pv 6)))))))))), ?_⟩
    refine ⟨_, rfl, p, _, _, _, rfl, rfl, SqL.of hp, atI_nat (j := 1) rfl, _, rfl, p, _, _, _, rfl, rfl, SqL.of hp, atI_nat (j := 0) rfl, _, _, rfl, ?_⟩
    refine ⟨_, rfl, _, _, rfl, rfl, _, rfl, p, _, _, 1, rfl, rfl, hp, rfl, ?_⟩
    have hp1 : upd H p (.lst [.ref c, .int (i + 1), .int j]) p = some (.lst [.ref c, .int (i + 1), .int j]) := upd_same
    have hc1 : upd H p (.lst [.ref c, .int (i + 1), .int j]) c = some (.lst (ns.map V.int)) := by
      rw [upd_ne hpc.symm]
      exact hc
    have k1 : Kp p c H (upd H p (.lst [.ref c, .int (i + 1), .int j])) := ⟨fun b o n e => by rw [upd_ne n]; exact e, ns, i + 1, j, hp1, hc1⟩
    -- behind the third statement the cell is some number; a new empty list stands
    refine ⟨fun σ H' => (∃ z : Int, σ = [some (.ref p), some (.int i), some (.ref c), some (.int z), none, none, none, none]) ∧ Kp p c H H' ∧ H' c = some (.lst (ns.map V.int)), ?_, ?_⟩
    · refine ⟨_, rfl, Nat.zero_le _, fun q hq => ?_⟩
      have k2 : Kp p c H (upd (upd H p (.lst [.ref c, .int (i + 1), .int j])) q (.lst [])) := k1.new hq
      have hc2 : upd (upd H p (.lst [.ref c, .int (i + 1), .int j])) q (.lst []) c = some (.lst (ns.map V.int)) := by
        rw [upd_ne (ne_of_none hc1 hq)]
        exact hc1
      refine ⟨.list (ns.map PyData.int), .list [], .lst (SqL.of hc2) (dp_ints ns), .lst (SqL.of upd_same) .nil, shaped_ints ns, by decide, _, rfl, ?_⟩
      rw [ints_ne_nil]
      cases ns with
      | nil =>
        refine iteF ?_
        exact ⟨⟨0, rfl⟩, k2, hc2⟩
      | cons n r =>
        refine iteT ?_
        have hm : (0 : Int) ≤ i % (((n :: r).map V.int).length : Nat) ∧ i % (((n :: r).map V.int).length : Nat) < (((n :: r).map V.int).length : Nat) := by
          have h0 : (0 : Int) < (((n :: r).map V.int).length : Nat) := by
            rw [List.length_map, List.length_cons]
            omega
          exact ⟨Int.emod_nonneg _ (by omega), Int.emod_lt_of_pos _ h0⟩
        obtain ⟨u, hu⟩ : ∃ u : Nat, i % (((n :: r).map V.int).length : Nat) = (u : Int) := ⟨_, (Int.toNat_of_nonneg hm.1).symm⟩
        have hlt : u < (n :: r).length := by
          have q := hm.2
          rw [hu, List.length_map] at q
          omega
        refine ⟨_, rfl, _, rfl, .inl ⟨_, rfl, _, rfl, c, _, rfl, .inl (SqL.of hc2), _, _, rfl, rfl, ?_, c, _, _, .int ((n :: r)[u]), rfl, rfl, SqL.of hc2, ?_, ⟨_, rfl⟩, k2, hc2⟩⟩
        · rw [List.length_map, List.length_cons]
          omega
        · rw [hu]
          exact atI_nat (by rw [List.getElem?_map, List.getElem?_eq_getElem hlt]; rfl)
    · rintro σ H2 ⟨⟨z, rfl⟩, k2, hc2⟩
      refine ⟨fun σ H' => σ = [some (.ref p), some (.int i), some (.ref c), some (.int z), none, none, none, none] ∧ H' = H2, ?_, ?_⟩
      · refine ⟨_, rfl, _, rfl, c, _, rfl, .inl (SqL.of hc2), _, _, rfl, rfl, _, rfl, ?_⟩
        refine ite2 (fun _ => ?_) (fun _ => ?_)
        · refine ⟨_, rfl, _, _, rfl, rfl, ⟨by decide, by decide, by decide⟩, _, _, rfl, rfl, _, rfl, ?_⟩
          refine ite2 (fun _ => ?_) (fun _ => ?_)
          · exact ⟨_, rfl, _, _, rfl, rfl, ⟨by decide, by decide, by decide⟩, _, _, rfl, rfl, k _ _ k2⟩
          · exact ⟨rfl, rfl⟩
        · exact iteF ⟨rfl, rfl⟩
      · rintro σ H3 ⟨rfl, rfl⟩
        refine ⟨_, rfl, _, _, rfl, rfl, .inr ⟨by decide, by decide⟩, _, rfl, _, _, rfl, rfl, .inl ⟨by decide, by decide⟩, _, _, rfl, rfl, _, _, rfl, rfl, .inl ⟨_, rfl, ?_⟩⟩
        refine ⟨_, rfl, _, _, rfl, rfl, (by show (0 : Int) < 2305843009213693951; decide), ?_⟩
        refine ⟨_, rfl, ?_⟩
        refine ⟨6, rfl, by decide, by decide, for_range (n := 6) (fun _ σ H' => H' = H3 ∧ ∃ (st fo : Int) (v : Option V), 0 ≤ st ∧ st < 2305843009213693951 ∧ σ = [some (.ref p), some (.int i), some (.ref c), some (.int z), some (.int 2305843009213693951), some (.int st), some (.int fo), v]) ⟨rfl, _, _, _, Int.emod_nonneg _ (by decide), Int.emod_lt_of_pos _ (by decide), rfl⟩ ?_ ?_⟩
        · rintro i' σ H4 hi ⟨rfl, st, fo, v, h0, h1, rfl⟩
          refine ⟨_, rfl, _, rfl, _, _, rfl, rfl, .inl ⟨by omega, by omega⟩, _, rfl, _, _, rfl, rfl, _, _, rfl, rfl, .inl ⟨by decide, by decide⟩, _, rfl, _, _, rfl, rfl, _, _, rfl, rfl, .inl ⟨by omega, by omega⟩, _, _, rfl, rfl, _, rfl, _, _, rfl, rfl, .inl ⟨_, rfl, ?_⟩⟩
          refine ⟨_, rfl, _, _, rfl, rfl, (by show (0 : Int) < 2305843009213693951; decide), ?_⟩
          refine ⟨_, rfl, _, rfl, _, _, rfl, rfl, .inr prime_ok, _, rfl, _, _, rfl, rfl, ?_⟩
          exact ⟨rfl, _, _, _, Int.emod_nonneg _ (by decide), Int.emod_lt_of_pos _ (by decide), rfl⟩
        · rintro σ H4 ⟨rfl, st, fo, v, h0, h1, rfl⟩
          exact ⟨_, rfl, k _ _ k2⟩
theorem cal_draw (F : C8.Def K mg "_law_draw" st_law_draw f fd) (b : Binds K fd ["pen", "bound"] []) (B : BN mg) (Cf : Cal P w K mg base 1 "_law_fresh" spFresh []) : Cal P w K mg base 2 "_law_draw" spDraw [] := by
  refine cal0 F b .nil sc_draw (fun vs H Q E h => ?_) (fun cdv A outer s H vs Q E hr h => ?_)
  · obtain ⟨p, c, n, rfl, _⟩ := h
    rfl
  · obtain ⟨p, c, n, rfl, hP, h0, h9, k⟩ := h
    refine ⟨_, pss_cut (ps_if (pt_cmpR op_lt (pe_ix ix_list (pv 0) pe_int (fun _ _ => rfl)) (pv 1) (nomark _)) (pss_one (ps_asg (pe_c Cf hr (by decide) (by rfl) (pa_cons (pv 0) pa_nil)) (pg_sub (pv 0) pe_int set_list))) pss_nil)
      (pss_cons (ps_set (i := 2) sc_draw.nd rfl (Or.inl rfl) (pe_op op_mod (pe_callTy call_int1 (by rfl) B.int (by decide +kernel) (pa_cons (pe_ix ix_list (pv 0) pe_int (fun _ _ => rfl)) pa_nil)) (pv 1)))
      (pss_cons (ps_asg (pe_op op_fdivW (pe_callTy call_int1 (by rfl) B.int (by decide +kernel) (pa_cons (pe_ix ix_list (pv 0) pe_int (fun _ _ => rfl)) pa_nil)) (pv 1)) (pg_sub (pv 0) pe_int set_list))
      (pss_one (ps_ret (pv 2))))), ?_⟩
    refine ⟨fun σ H' => σ = [some (.ref p), some (.int n), none] ∧ Kp p c H H', ?_, ?_⟩
    · obtain ⟨ns, i, j, hp, hc⟩ := id hP
      refine ⟨_, rfl, p, _, _, _, rfl, rfl, SqL.of hp, atI_nat (j := 2) rfl, _, rfl, _, _, rfl, rfl, _, rfl, ?_⟩
      refine ite2 (fun _ => ?_) (fun _ => ?_)
      · refine ⟨_, rfl, p, c, rfl, hP, fun z H1 k1 => ?_⟩
        obtain ⟨ns1, i1, j1, hp1, hc1⟩ := k1.pen
        refine ⟨_, rfl, p, _, _, 2, rfl, rfl, hp1, rfl, rfl, k1.trans ⟨fun b o n e => by rw [upd_ne n]; exact e, ns1, i1, z, upd_same, ?_⟩⟩
        rw [upd_ne (pen_ne hp1 hc1).symm]
        exact hc1
      · exact ⟨rfl, Kp.rfl' hP⟩
    · rintro σ H1 ⟨rfl, k1⟩
      obtain ⟨ns, i, j, hp, hc⟩ := k1.pen
      refine ⟨_, rfl, p, _, _, _, rfl, rfl, SqL.of hp, atI_nat (j := 2) rfl, .inl ⟨_, rfl, _, rfl, _, _, rfl, rfl, h0, ?_⟩⟩
      refine ⟨_, rfl, p, _, _, _, rfl, rfl, SqL.of hp, atI_nat (j := 2) rfl, .inl ⟨_, rfl, _, rfl, _, _, rfl, rfl, ⟨h0, h9⟩, _, rfl, p, _, _, 2, rfl, rfl, hp, rfl, ?_⟩⟩
      refine ⟨_, rfl, k _ _ (Int.emod_nonneg _ (by omega)) (Int.emod_lt_of_pos _ h0) (k1.trans ⟨fun b o n e => by rw [upd_ne n]; exact e, ns, i, j / n, upd_same, ?_⟩)⟩
      rw [upd_ne (pen_ne hp hc).symm]
      exact hc
end

/-! ### one of some things; texts, words -/
/-- a part of a list that is not the pen, or a sign of a text -/
def spOne (K : PySem.W.Frag) : Sp := fun vs H Q _ => ∃ p c : Addr, Pen H p c ∧
  ((∃ (a : Addr) (xs : List V), vs = [.ref p, .ref a] ∧ a ≠ p ∧ SqL K H a xs ∧ 0 < xs.length ∧ xs.length < 1000 ∧ ∀ (x : V) H', x ∈ xs → Kp p c H H' → Q x H') ∨
   (∃ z : Str, vs = [.ref p, .str z] ∧ 0 < z.length ∧ z.length < 1000 ∧ ∀ (g : Nat) H', g ∈ z.cps.toList → Kp p c H H' → Q (.str ⟨#[g]⟩) H'))
theorem sc_one : FnScope ["pen", "rows"] ["pen", "rows"] (fnScope st_law_one_of) := fnScope_by (by decide +kernel)
theorem log_small {b : Int} (h0 : 0 < b) (h : b < 1000) : b.natAbs.log2 < 9000 := by
  have h1 : b.natAbs ≠ 0 := by omega
  rw [Nat.log2_lt h1]
  exact Nat.lt_of_lt_of_le (show b.natAbs < 2 ^ 10 by omega) (Nat.pow_le_pow_right (by decide) (by decide))

/-- a text of small letters, not longer than n -/
structure Tx (n : Nat) (z : Str) : Prop where
  len : z.length ≤ n
  low : ∀ c ∈ z.cps.toList, 97 ≤ c ∧ c ≤ 122
def spPiece : Sp := fun vs H Q _ => ∃ (p c : Addr) (m : Nat), vs = [.ref p, .int m] ∧ Pen H p c ∧ 0 < m ∧ m < 900 ∧
  ∀ (z : Str) H', 0 < z.length → Tx m z → Kp p c H H' → Q (.str z) H'
def abc : List Str := ["ab", "ab", "a", "abc", "abcdefghijklmnopqrstuvwxyz"]
theorem abc_low : ∀ z ∈ abc, 0 < z.length ∧ z.length < 1000 ∧ ∀ c ∈ z.cps.toList, 97 ≤ c ∧ c ≤ 122 := by decide +kernel
/-- texts joined: their signs one behind the other -/
theorem join_nil : ∀ l : List (List Nat), TL.joinL [] l = l.flatten
  | [] => rfl
  | [x] => by
    show x = [x].flatten
    rw [List.flatten_cons, List.flatten_nil, List.append_nil]
  | x :: z :: r => by
    show x ++ ([] ++ TL.joinL [] (z :: r)) = (x :: z :: r).flatten
    rw [List.nil_append, join_nil (z :: r), List.flatten_cons (l := x)]
theorem join_cps (ys : List Str) : (Txt.join "" ys).cps.toList = (ys.map fun y => y.cps.toList).flatten := by
  have e : TL.tl (Txt.join "" ys) = TL.joinL (TL.tl "") (ys.map TL.tl) := (congrArg TL.tl (TL.join_eq "" ys)).trans (TL.tl_join "" ys)
  exact e.trans (join_nil _)
theorem join_len (ys : List Str) : (Txt.join "" ys).length = (ys.map (·.length)).sum := by
  have e : (Txt.join "" ys).length = (Txt.join "" ys).cps.toList.length := (Array.length_toList).symm
  rw [e, join_cps, List.length_flatten, List.map_map]
  exact congrArg List.sum (List.map_congr_left fun y _ => Array.length_toList)
theorem lens_one : ∀ ys : List Str, (∀ y ∈ ys, y.length = 1) → (ys.map (·.length)).sum = ys.length
  | [], _ => rfl
  | y :: r, h => by
    rw [List.map_cons, List.sum_cons, h y List.mem_cons_self, lens_one r fun z hz => h z (List.mem_cons_of_mem _ hz), List.length_cons]
    omega
section
variable {P : Program} {w : World} {K : PySem.W.Frag} {mg : Str → Option Value} {base : Heap} {f : Addr} {fd : FuncData}
theorem cal_one (F : C8.Def K mg "_law_one_of" st_law_one_of f fd) (b : Binds K fd ["pen", "rows"] []) (B : BN mg) (Cd : Cal P w K mg base 2 "_law_draw" spDraw []) : Cal P w K mg base 3 "_law_one_of" (spOne K) [] := by
  refine cal0 F b .nil sc_one (fun vs H Q E h => ?_) (fun cdv A outer s H vs Q E hr h => ?_)
  · obtain ⟨p, c, _, h⟩ := h
    rcases h with ⟨a, xs, rfl, _⟩ | ⟨z, rfl, _⟩ <;> rfl
  · obtain ⟨p, c, hP, h⟩ := h
    refine ⟨_, pss_one (ps_ret (pe_ix (IxR.or ix_list ix_str) (pv 1) (pe_c Cd hr (by decide) (by rfl) (pa_cons (pv 0) (pa_cons (pe_callB (CallR.or call_len_seq call_len_str) (by rfl) B.len PySem.boot_len (pa_cons (pv 1) pa_nil)) pa_nil))) (fun _ _ => rfl))), ?_⟩
    rcases h with ⟨a, xs, rfl, na, hS, h0, h1, k⟩ | ⟨z, rfl, h0, h1, k⟩
    · refine ⟨_, rfl, _, rfl, _, rfl, .inl ⟨a, xs, rfl, .inl hS, p, c, _, rfl, hP, by omega, log_small (by omega) (by omega), fun d H1 d0 d1 k1 => ?_⟩⟩
      obtain ⟨u, rfl⟩ : ∃ u : Nat, d = (u : Int) := ⟨_, (Int.toNat_of_nonneg d0).symm⟩
      have hlt : u < xs.length := by omega
      exact .inl ⟨a, xs, _, xs[u], rfl, rfl, k1.seqL na hS, atI_nat (List.getElem?_eq_getElem hlt), k _ _ (List.getElem_mem hlt) k1⟩
    · refine ⟨_, rfl, _, rfl, _, rfl, .inr ⟨z, rfl, Nat.le_of_lt (Nat.lt_of_lt_of_le h1 (by decide)), p, c, _, rfl, hP, by omega, log_small (by omega) (by omega), fun d H1 d0 d1 k1 => ?_⟩⟩
      obtain ⟨u, rfl⟩ : ∃ u : Nat, d = (u : Int) := ⟨_, (Int.toNat_of_nonneg d0).symm⟩
      have hlt : u < z.cps.toList.length := by
        rw [Array.length_toList]
        have e : z.length = z.cps.size := rfl
        omega
      exact .inr ⟨z, _, z.cps.toList[u], rfl, rfl, Nat.le_of_lt (Nat.lt_of_lt_of_le h1 (by decide)), atI_nat (List.getElem?_eq_getElem hlt), k _ _ (List.getElem_mem hlt) k1⟩
end

/-! ### a drawn text -/
theorem sc_piece : FnScope ["pen", "most", "letters", "lap"] ["pen", "most"] (fnScope st_law_piece) := fnScope_by (by decide +kernel)
section
variable {P : Program} {w : World} {K : PySem.W.Frag} {mg : Str → Option Value} {base : Heap} {f : Addr} {fd : FuncData}
theorem cal_piece (F : C8.Def K mg "_law_piece" st_law_piece f fd) (b : Binds K fd ["pen", "most"] []) (B : BN mg) (Cd : Cal P w K mg base 2 "_law_draw" spDraw []) (Co : Cal P w K mg base 3 "_law_one_of" (spOne K) []) : Cal P w K mg base 4 "_law_piece" spPiece [] := by
  refine cal0 F b .nil sc_piece (fun vs H Q E h => ?_) (fun cdv A outer s H vs Q E hr h => ?_)
  · obtain ⟨p, c, m, rfl, _⟩ := h
    rfl
  · obtain ⟨p, c, m, rfl, hP, m0, m9, k⟩ := h
    refine ⟨_, pss_cons (ps_set (i := 2) sc_piece.nd rfl (Or.inr rfl) (pe_c Co hr (by decide) (by rfl) (pa_cons (pv 0) (pa_cons (pe_lst (pa_cons pe_str (pa_cons pe_str (pa_cons pe_str (pa_cons pe_str (pa_cons pe_str pa_nil)))))) pa_nil))))
      (pss_one (ps_ret (pe_join pe_str (pe_lc (own := [("lap", 3)]) (g := gName 3) (tt := tYes) (by rfl) sc_piece.nd (pi_range1 rfl B.range (pa_cons (pe_op op_add pe_int (pe_c Cd hr (by decide) (by rfl) (pa_cons (pv 0) (pa_cons (pv 1) pa_nil)))) pa_nil))
        (blkOk_by (own := [("lap", 3)]) (N := ["pen", "most", "letters", "lap"]) (sc := fnScope st_law_piece) (by decide +kernel)) (fun _ _ _ _ _ => pg_name (i := 3) sc_piece.nd rfl (Or.inl rfl)) (fun _ _ _ _ _ => pts_nil)
        (fun _ _ _ _ _ => pe_c Co hr (by decide) (by rfl) (pa_cons (pv 0) (pa_cons (pv 2) pa_nil))))))), ?_⟩
    refine ⟨_, rfl, (by show 5 ≤ sizeLine; decide), fun a ha => ⟨p, c, hP.new ha, .inl ⟨a, _, rfl, hP.ne ha, SqL.of upd_same, by decide, by decide, fun x H1 hx k1 => ?_⟩⟩⟩
    obtain ⟨z, hz, rfl⟩ : ∃ z ∈ abc, x = V.str z := by
      have hx' : x ∈ abc.map V.str := hx
      obtain ⟨z, h1, h2⟩ := List.mem_map.mp hx'
      exact ⟨z, h1, h2.symm⟩
    obtain ⟨z0, z1, z2⟩ := abc_low z hz
    have kA : Kp p c H H1 := (Kp.new (Kp.rfl' hP) ha).trans k1
    refine ⟨⟨_, rfl⟩, ?_⟩
    refine ⟨_, rfl, _, rfl, p, c, m, rfl, kA.pen, by omega, log_small (by omega) (by omega), fun d H2 d0 d1 k2 => ?_⟩
    have kB : Kp p c H H2 := kA.trans k2
    refine ⟨_, _, rfl, rfl, 1 + d, rfl, by omega, by omega, fun D hD => ?_⟩
    refine lc_range (lo := 0) (n := (1 + d).toNat) (fun i H' => Kp p c H H' ∧ ∃ ys : List Str, H' D = some (.lst (ys.map V.str)) ∧ H D = none ∧ ys.length = i ∧ ∀ y ∈ ys, y.length = 1 ∧ ∀ c ∈ y.cps.toList, 97 ≤ c ∧ c ≤ 122)
      ⟨kB.new hD, [], upd_same, kB.free hD, rfl, fun y hy => by cases hy⟩ ?_ ?_
    · rintro i H3 hi ⟨k3, ys, hL, hD0, hl, hy⟩
      refine ⟨rfl, ?_⟩
      refine ⟨_, rfl, _, rfl, p, c, k3.pen, .inr ⟨z, rfl, z0, z1, fun g H4 hg k4 => ?_⟩⟩
      have nD : D ≠ p := hP.ne hD0
      have hL4 : H4 D = some (.lst (ys.map V.str)) := k4.but _ _ nD hL
      refine ⟨_, hL4, ?_, ?_⟩
      · rw [List.length_map]
        exact Nat.lt_of_lt_of_le (show ys.length < 1000 by omega) (by decide)
      · refine ⟨(k3.trans k4).put hP hD0, ys ++ [⟨#[g]⟩], ?_, hD0, ?_, ?_⟩
        · rw [upd_same, List.map_append]
          rfl
        · rw [List.length_append, hl]
          rfl
        · intro y hm
          rcases List.mem_append.mp hm with hm | hm
          · exact hy y hm
          · obtain rfl := List.mem_singleton.mp hm
            exact ⟨rfl, fun c' hc' => by
              obtain rfl : c' = g := by simpa using hc'
              exact z2 _ hg⟩
    · rintro H3 ⟨k3, ys, hL, hD0, hl, hy⟩
      refine ⟨_, D, ys, rfl, rfl, .inl (SqL.of hL), ?_, ?_⟩
      · rw [lens_one ys fun y hy' => (hy y hy').1]
        have e0 : (("" : Str)).length = 0 := by decide
        rw [e0]
        omega
      · refine k _ _ ?_ ⟨?_, ?_⟩ k3
        · rw [join_len, lens_one ys fun y hy' => (hy y hy').1]
          omega
        · rw [join_len, lens_one ys fun y hy' => (hy y hy').1]
          omega
        · intro c' hc'
          rw [join_cps] at hc'
          obtain ⟨l, h1, h2⟩ := List.mem_flatten.mp hc'
          obtain ⟨y, h3, rfl⟩ := List.mem_map.mp h1
          exact (hy y h3).2 _ h2
end

/-! ### words drawn -/
/-- a word of kinds below b, not longer than n -/
def Wd (b : Int) (n : Nat) (ks : List Int) : Prop := ks.length ≤ n ∧ ∀ k ∈ ks, 0 ≤ k ∧ k < b
def spWord : Sp := fun vs H Q _ => ∃ (p c : Addr) (b : Int) (n : Nat), vs = [.ref p, .int b, .int n] ∧ Pen H p c ∧ 0 < b ∧ b < 1000 ∧ n < 900 ∧
  ∀ (ks : List Int) (t : Addr) H', Wd b n ks → Kp p c H H' → H t = none → H' t = some (.tup (ks.map V.int)) → Q (.ref t) H'
theorem sc_word : FnScope ["pen", "count", "most", "lap"] ["pen", "count", "most"] (fnScope st_law_word) := fnScope_by (by decide +kernel)

section
variable {P : Program} {w : World} {K : PySem.W.Frag} {mg : Str → Option Value} {base : Heap} {f : Addr} {fd : FuncData}
theorem cal_word (F : C8.Def K mg "_law_word" st_law_word f fd) (b : Binds K fd ["pen", "count", "most"] []) (B : BN mg) (BT : mg "tuple" = none) (Cd : Cal P w K mg base 2 "_law_draw" spDraw []) : Cal P w K mg base 3 "_law_word" spWord [] := by
  refine cal0 F b .nil sc_word (fun vs H Q E h => ?_) (fun cdv A outer s H vs Q E hr h => ?_)
  · obtain ⟨p, c, m, n, rfl, _⟩ := h
    rfl
  · obtain ⟨p, c, m, n, rfl, hP, m0, m9, n9, k⟩ := h
    refine ⟨_, pss_one (ps_ret (pe_callTy call_tuple_of (by rfl) BT (by decide +kernel) (pa_cons (pe_lc (own := [("lap", 3)]) (g := gName 3) (tt := tYes) (by rfl) sc_word.nd (pi_range1 rfl B.range (pa_cons (pe_c Cd hr (by decide) (by rfl) (pa_cons (pv 0) (pa_cons (pe_op op_add (pv 2) pe_int) pa_nil))) pa_nil))
        (blkOk_by (own := [("lap", 3)]) (N := ["pen", "count", "most", "lap"]) (sc := fnScope st_law_word) (by decide +kernel)) (fun _ _ _ _ _ => pg_name (i := 3) sc_word.nd rfl (Or.inl rfl)) (fun _ _ _ _ _ => pts_nil)
        (fun _ _ _ _ _ => pe_c Cd hr (by decide) (by rfl) (pa_cons (pv 0) (pa_cons (pv 1) pa_nil)))) pa_nil))), ?_⟩
    refine ⟨_, rfl, _, rfl, _, _, rfl, rfl, p, c, _, rfl, hP, by omega, log_small (by omega) (by omega), fun d H1 d0 d1 k1 => ?_⟩
    refine ⟨d, rfl, by omega, by omega, fun D hD => ?_⟩
    refine lc_range (lo := 0) (n := d.toNat) (fun i H' => Kp p c H H' ∧ ∃ ks : List Int, H' D = some (.lst (ks.map V.int)) ∧ H D = none ∧ ks.length = i ∧ ∀ z ∈ ks, 0 ≤ z ∧ z < m)
      ⟨k1.new hD, [], upd_same, k1.free hD, rfl, fun y hy => by cases hy⟩ ?_ ?_
    · rintro i H3 hi ⟨k3, ks, hL, hD0, hl, hy⟩
      refine ⟨rfl, ?_⟩
      refine ⟨_, rfl, _, rfl, p, c, _, rfl, k3.pen, m0, log_small m0 m9, fun z H4 z0 z1 k4 => ?_⟩
      refine ⟨_, k4.but _ _ (hP.ne hD0) hL, ?_, ?_⟩
      · rw [List.length_map]
        exact Nat.lt_of_lt_of_le (show ks.length < 1000 by omega) (by decide)
      · refine ⟨(k3.trans k4).put hP hD0, ks ++ [z], ?_, hD0, ?_, ?_⟩
        · rw [upd_same, List.map_append]
          rfl
        · rw [List.length_append, hl]
          rfl
        · intro y hm
          rcases List.mem_append.mp hm with hm | hm
          · exact hy y hm
          · obtain rfl := List.mem_singleton.mp hm
            exact ⟨z0, z1⟩
    · rintro H3 ⟨k3, ks, hL, hD0, hl, hy⟩
      refine ⟨D, _, rfl, .inl ⟨SqL.of hL, fun t ht => ?_⟩⟩
      exact k ks t _ ⟨by omega, hy⟩ (k3.new ht) (k3.free ht) upd_same
end

/-! ### recipes: parts, their buffers, their letters -/
inductive Pt where
  | s (z : Str)
  | b (i : Nat)
abbrev Rc := List Pt
def Pt.v : Pt → V
  | .s z => .str z
  | .b i => .int i
def Pt.d : Pt → PyData
  | .s z => .str z
  | .b i => .int i
def Pt.buf : Pt → List Nat
  | .s _ => []
  | .b i => [i]
def Pt.let : Pt → Nat
  | .s z => z.length
  | .b _ => 0
def Pt.low : Pt → Prop
  | .s z => ∀ c ∈ z.cps.toList, 97 ≤ c ∧ c ≤ 122
  | .b _ => True
def bufs (r : Rc) : List Nat := r.flatMap Pt.buf
def lets (r : Rc) : Nat := (r.map Pt.let).sum
def lowR (r : Rc) : Prop := ∀ q ∈ r, q.low
theorem bufs_app (a b : Rc) : bufs (a ++ b) = bufs a ++ bufs b := List.flatMap_append
theorem lets_app (a b : Rc) : lets (a ++ b) = lets a + lets b := by
  unfold lets
  rw [List.map_append, List.sum_append]
theorem lets_one (q : Pt) : lets [q] = q.let := by
  unfold lets
  rw [List.map_cons, List.map_nil, List.sum_cons, List.sum_nil, Nat.add_zero]
theorem bufs_one (q : Pt) : bufs [q] = q.buf := by
  unfold bufs
  rw [List.flatMap_cons, List.flatMap_nil, List.append_nil]
theorem lowR_app {a b : Rc} (h : lowR a) (h2 : lowR b) : lowR (a ++ b) := fun q hq => (List.mem_append.mp hq).elim (h q) (h2 q)
theorem lowR_one {q : Pt} (h : q.low) : lowR [q] := fun x hx => by
  obtain rfl := List.mem_singleton.mp hx
  exact h
theorem low_strOk {z : Str} (h : ∀ c ∈ z.cps.toList, 97 ≤ c ∧ c ≤ 122) : PyData.strOk z = true := by
  unfold PyData.strOk
  rw [← Array.all_toList, List.all_eq_true]
  intro c hc
  have q := (h c hc).2
  exact decide_eq_true (by omega)
theorem low_cat {x y : Str} (h : ∀ c ∈ x.cps.toList, 97 ≤ c ∧ c ≤ 122) (h2 : ∀ c ∈ y.cps.toList, 97 ≤ c ∧ c ≤ 122) : ∀ c ∈ (x ++ y).cps.toList, 97 ≤ c ∧ c ≤ 122 := by
  intro c hc
  rw [Str.cps_append, Array.toList_append] at hc
  exact (List.mem_append.mp hc).elim (h c) (h2 c)
theorem len_cat (x y : Str) : (x ++ y).length = x.length + y.length := by
  show (x ++ y).cps.size = x.cps.size + y.cps.size
  rw [Str.cps_append, Array.size_append]

/-- the parts put together: pieces side by side become one -/
def nstep (f : Rc) : Pt → Rc
  | .b i => f ++ [.b i]
  | .s z => match f.getLast? with
    | some (.s y) => f.dropLast ++ [.s (y ++ z)]
    | _ => if z = "" then f else f ++ [.s z]
def normal (ps : Rc) : Rc := ps.foldl nstep []
theorem nstep_glue (g : Rc) (y z : Str) : nstep (g ++ [.s y]) (.s z) = g ++ [.s (y ++ z)] := by
  unfold nstep
  rw [List.getLast?_concat, List.dropLast_concat]
theorem nstep_behind (g : Rc) (i : Nat) (z : Str) : nstep (g ++ [.b i]) (.s z) = if z = "" then g ++ [.b i] else g ++ [.b i] ++ [.s z] := by
  unfold nstep
  rw [List.getLast?_concat]
theorem nstep_first (z : Str) : nstep [] (.s z) = if z = "" then [] else [.s z] := rfl
theorem len_empty {z : Str} (h : z = "") : z.length = 0 := by
  subst h
  decide
structure NOk (f : Rc) (q : Pt) (g : Rc) : Prop where
  buf : bufs g = bufs f ++ q.buf
  lt : lets g = lets f + q.let
  len : g.length ≤ f.length + 1
  low : lowR f → q.low → lowR g
theorem nok_push (f : Rc) (q : Pt) : NOk f q (f ++ [q]) :=
  ⟨by rw [bufs_app, bufs_one], by rw [lets_app, lets_one], by rw [List.length_append, List.length_singleton]; exact Nat.le_refl _, fun h1 h2 => lowR_app h1 (lowR_one h2)⟩
theorem nok_same (f : Rc) {z : Str} (h : z = "") : NOk f (.s z) f :=
  ⟨(List.append_nil _).symm, by show lets f = lets f + z.length; rw [len_empty h, Nat.add_zero], Nat.le_succ _, fun h1 _ => h1⟩
theorem nok_glue (g : Rc) (y z : Str) : NOk (g ++ [.s y]) (.s z) (g ++ [.s (y ++ z)]) := by
  refine ⟨?_, ?_, ?_, fun h1 h2 => ?_⟩
  · rw [bufs_app, bufs_app, bufs_one, bufs_one]
    show bufs g ++ [] = bufs g ++ [] ++ []
    rw [List.append_nil, List.append_nil]
  · rw [lets_app, lets_app, lets_one, lets_one]
    show lets g + (y ++ z).length = lets g + y.length + z.length
    rw [len_cat, Nat.add_assoc]
  · rw [List.length_append, List.length_append]
    exact Nat.le_succ _
  · refine lowR_app (fun q hq => h1 q (List.mem_append_left _ hq)) (lowR_one ?_)
    exact low_cat (h1 (.s y) (List.mem_append_right _ (List.mem_singleton.mpr rfl))) h2
theorem nstep_ok (f : Rc) (q : Pt) : NOk f q (nstep f q) := by
  cases q with
  | b i => exact nok_push f _
  | s z =>
    rcases List.eq_nil_or_concat f with rfl | ⟨g, l, rfl⟩
    · rw [nstep_first]
      by_cases h : z = ""
      · rw [if_pos h]
        exact nok_same [] h
      · rw [if_neg h]
        exact nok_push [] _
    · rw [List.concat_eq_append]
      cases l with
      | s y =>
        rw [nstep_glue]
        exact nok_glue g y z
      | b i =>
        rw [nstep_behind]
        by_cases h : z = ""
        · rw [if_pos h]
          exact nok_same _ h
        · rw [if_neg h]
          exact nok_push _ _
theorem normal_ok : ∀ (ps f : Rc), bufs (ps.foldl nstep f) = bufs f ++ bufs ps ∧ lets (ps.foldl nstep f) = lets f + lets ps ∧ (ps.foldl nstep f).length ≤ f.length + ps.length ∧ (lowR f → lowR ps → lowR (ps.foldl nstep f))
  | [], f => ⟨(List.append_nil _).symm, rfl, Nat.le_refl _, fun h _ => h⟩
  | q :: r, f => by
    have a := nstep_ok f q
    obtain ⟨h1, h2, h3, h4⟩ := normal_ok r (nstep f q)
    rw [List.foldl_cons]
    refine ⟨?_, ?_, ?_, fun l1 l2 => ?_⟩
    · rw [h1, a.buf, List.append_assoc]
      exact congrArg _ (List.flatMap_cons).symm
    · rw [h2, a.lt, Nat.add_assoc]
      rfl
    · rw [List.length_cons]
      have := a.len
      omega
    · exact h4 (a.low l1 (l2 q List.mem_cons_self)) fun x hx => l2 x (List.mem_cons_of_mem _ hx)
theorem foldl_more {α β : Type} (g : β → α → β) (b : β) {l : List α} {i : Nat} {x : α} (h : l[i]? = some x) : (l.take (i + 1)).foldl g b = g ((l.take i).foldl g b) x := by
  have e : l.take (i + 1) = l.take i ++ [x] := by
    rw [List.take_add_one, h]
    rfl
  rw [e, List.foldl_append]
  rfl
theorem dp_parts {K : PySem.W.Frag} {H : Hp} : ∀ r : Rc, DpAll K H (r.map Pt.v) (r.map Pt.d)
  | [] => .nil
  | .s z :: r => .cons (.str z) (dp_parts r)
  | .b i :: r => .cons (.int i) (dp_parts r)
theorem parts_flat : ∀ r : Rc, lowR r → PyData.canLayAll0 (r.map Pt.d) = true ∧ PyData.depthAll (r.map Pt.d) = 0
  | [], _ => ⟨by simp only [List.map_nil, PyData.canLayAll0], by simp only [List.map_nil, PyData.depthAll]⟩
  | .s z :: r, h => by
    obtain ⟨h1, h2⟩ := parts_flat r fun q hq => h q (List.mem_cons_of_mem _ hq)
    have h3 : PyData.strOk z = true := low_strOk (h (.s z) List.mem_cons_self)
    exact ⟨by simp only [List.map_cons, Pt.d, PyData.canLayAll0, PyData.canLay0, h1, h3, Bool.and_self], by simp only [List.map_cons, Pt.d, PyData.depthAll, PyData.depth, h2, Nat.max_self]⟩
  | .b i :: r, h => by
    obtain ⟨h1, h2⟩ := parts_flat r fun q hq => h q (List.mem_cons_of_mem _ hq)
    exact ⟨by simp only [List.map_cons, Pt.d, PyData.canLayAll0, PyData.canLay0, h1, Bool.and_self], by simp only [List.map_cons, Pt.d, PyData.depthAll, PyData.depth, h2, Nat.max_self]⟩
theorem shaped_parts (r : Rc) (h : lowR r) : SeqAt.shaped (.list (r.map Pt.d)) = true := by
  obtain ⟨h1, h2⟩ := parts_flat r h
  unfold SeqAt.shaped
  simp only [PyData.canLay0, PyData.depth, h1, h2, Bool.true_and]
  decide
theorem list_ne_nil (ds : List PyData) : (!PyData.eqv (.list ds) (.list [])) = !ds.isEmpty := by
  cases ds with
  | nil => simp only [PyData.eqv, PyData.eqvAll, List.isEmpty_nil]
  | cons a r => simp only [PyData.eqv, PyData.eqvAll, List.isEmpty_cons]

/-- more built-in names -/
structure BN2 (mg : Str → Option Value) : Prop extends BN mg where
  tuple : mg "tuple" = none
  isi : mg "isinstance" = none
  str : mg "str" = none

def spNormal (K : PySem.W.Frag) : Sp := fun vs H Q _ => ∃ (a : Addr) (ps : Rc), vs = [.ref a] ∧ SqL K H a (ps.map Pt.v) ∧ ps.length ≤ 1000 ∧ lets ps ≤ 100000 ∧ lowR ps ∧
  ∀ t H', Same H H' → H t = none → H' t = some (.tup ((normal ps).map Pt.v)) → Q (.ref t) H'
/-- isinstance(part, str) -/
theorem isi_pt {K : PySem.W.Frag} {H : Hp} (q : Pt) : ∃ (t : Value) (b : Bool), TyX K H q.v t ∧ PySem.W.kitOne K t (.type "str") = some b ∧ (b = true → ∃ z, q = .s z) ∧ (b = false → ∃ i, q = .b i) := by
  cases q with
  | s z => exact ⟨_, true, .base (.str z), kit_ty (by decide +kernel), fun _ => ⟨z, rfl⟩, fun h => (by cases h)⟩
  | b i => exact ⟨_, false, .base (.int i), kit_ty (by decide +kernel), fun h => (by cases h), fun _ => ⟨i, rfl⟩⟩

/-! ### parts put together -/
theorem sc_normal : FnScope ["parts", "found", "part"] ["parts"] (fnScope st_law_normal) := fnScope_by (by decide +kernel)
section
variable {P : Program} {w : World} {K : PySem.W.Frag} {mg : Str → Option Value} {base : Heap} {f : Addr} {fd : FuncData}
theorem cal_normal (F : C8.Def K mg "_law_normal" st_law_normal f fd) (b : Binds K fd ["parts"] []) (B : BN2 mg) : Cal P w K mg base 1 "_law_normal" (spNormal K) [] := by
  refine cal0 F b .nil sc_normal (fun vs H Q E h => ?_) (fun cdv A outer s H vs Q E hr h => ?_)
  · obtain ⟨a, ps, rfl, _⟩ := h
    rfl
  · obtain ⟨a, ps, rfl, hS, hlen, hlets, hlow, k⟩ := h
    refine ⟨_, pss_cons (ps_set (i := 1) sc_normal.nd rfl (Or.inl rfl) (pe_lst pa_nil))
      (pss_cons (ps_for PassesOwn.never rfl (pi_list (pv 0)) (pg_name (i := 2) sc_normal.nd rfl (Or.inl rfl))
        (pss_one (ps_if (PW.pt (pw_and (pt_val (pe_callB call_isi (by rfl) B.isi (by decide +kernel) (pa_cons (pv 2) (pa_cons (pe_bltn (v := .ty "str") (by rfl) B.str (by decide +kernel) rfl) pa_nil))))
            (pw_and (pt_cmpR (op_neD hr.units) (pv 1) (pe_lst pa_nil) (nomark _)) (pw_and1 (pt_val (pe_callB call_isi (by rfl) B.isi (by decide +kernel) (pa_cons (pe_ix ix_list (pv 1) (pe_un un_neg pe_int) (fun _ _ => rfl)) (pa_cons (pe_bltn (v := .ty "str") (by rfl) B.str (by decide +kernel) rfl) pa_nil))))))))
          (pss_one (ps_asg (pe_op op_add_str (pe_ix ix_list (pv 1) (pe_un un_neg pe_int) (fun _ _ => rfl)) (pv 2)) (pg_sub (pv 1) (pe_un un_neg pe_int) set_list)))
          (pss_one (ps_if (pt_cmpR op_ne (pv 2) pe_str (nomark _)) (pss_one (ps_expr (pe_bm PySem.F.plainAttrs_list PySem.F.slot_list_append PySem.F.type_list_append mt_append (pv 1) (pa_cons (pv 2) pa_nil)))) pss_nil)))))
      (pss_one (ps_ret (pe_callTy call_tuple_of (by rfl) B.tuple (by decide +kernel) (pa_cons (pv 1) pa_nil))))), ?_⟩
    refine ⟨Nat.zero_le _, fun q hq => ?_⟩
    have inv : ∀ i, bufs ((ps.take i).foldl nstep []) = bufs (ps.take i) ∧ lets ((ps.take i).foldl nstep []) ≤ 100000 ∧ ((ps.take i).foldl nstep []).length ≤ 1000 ∧ lowR ((ps.take i).foldl nstep []) := fun i => by
      obtain ⟨h1, h2, h3, h4⟩ := normal_ok (ps.take i) []
      have e : lets ps = lets (ps.take i) + lets (ps.drop i) := by rw [← lets_app, List.take_append_drop]
      refine ⟨h1, ?_, ?_, h4 (fun q hq => by cases hq) fun q hq => hlow q (List.mem_of_mem_take hq)⟩
      · rw [h2]
        show 0 + lets (ps.take i) ≤ 100000
        omega
      · have := List.length_take_le i ps
        simp only [List.length_nil] at h3
        have h5 : (ps.take i).length ≤ ps.length := by rw [List.length_take]; omega
        omega
    refine ⟨_, rfl, a, rfl, ⟨_, (show SqL K (upd H q (.lst [])) a (ps.map Pt.v) from Same.seq (fun b o e => by rw [upd_ne (ne_of_none e hq)]; exact e) hS)⟩, for_list (K := K) (a := a) (xs := ps.map Pt.v)
      (fun i σ H' => (∃ v : Option V, σ = [some (.ref a), some (.ref q), v]) ∧ Same H H' ∧ H' q = some (.lst (((ps.take i).foldl nstep []).map Pt.v)))
      ⟨⟨none, rfl⟩, fun b o e => by rw [upd_ne (ne_of_none e hq)]; exact e, upd_same⟩ (fun i σ H' _ h => h.2.1.seq hS) ?_ ?_⟩
    · rintro i x σ H1 hi ⟨⟨v, rfl⟩, s1, hL⟩
      obtain ⟨y, hy, rfl⟩ : ∃ y, ps[i]? = some y ∧ x = Pt.v y := by
        rw [List.getElem?_map] at hi
        cases e : ps[i]? with
        | none =>
          rw [e] at hi
          cases hi
        | some y =>
          rw [e] at hi
          exact ⟨y, rfl, (Option.some.inj hi).symm⟩
      have step := foldl_more nstep [] hy
      obtain ⟨_, v2, v3, v4⟩ := inv i
      have ylow : y.low := hlow y (List.mem_of_getElem? hy)
      generalize hf : (ps.take i).foldl nstep [] = g at *
      rw [step]
      have push : ∀ (H2 : Hp), Same H H2 → H2 q = some (.lst (g.map Pt.v)) → nstep g y = g ++ [y] → (Same H (upd H2 q (.lst (g.map Pt.v ++ [y.v])))) ∧ upd H2 q (.lst (g.map Pt.v ++ [y.v])) q = some (.lst ((nstep g y).map Pt.v)) := fun H2 s2 _ e => by
        refine ⟨fun b o hb => by rw [upd_ne (ne_of_none hb hq)]; exact s2 b o hb, ?_⟩
        rw [upd_same, e, List.map_append]
        rfl
      obtain ⟨ty, tb, t1, t2, t3, t4⟩ := isi_pt (K := K) (H := H1) y
      refine ⟨_, rfl, y.v, _, ty, _, tb, rfl, .ty _, t1, t2, _, rfl, ?_⟩
      cases tb with
      | false =>
        obtain ⟨j, rfl⟩ := t4 rfl
        refine iteF (iteF ?_)
        refine ⟨_, rfl, rfl, _, rfl, ?_⟩
        have ne : (V.int (j : Nat) ≠ V.str "") := fun e => by cases e
        refine iteT' (by show (!decide (V.int (j : Nat) = V.str "")) = true; rw [decide_eq_false ne]; rfl) ?_
        refine ⟨_, rfl, .inl ⟨rfl, _, SqL.of hL⟩, _, rfl, q, _, _, rfl, rfl, hL, ?_, ?_⟩
        · rw [List.length_map]
          exact Nat.lt_of_le_of_lt v3 (by decide)
        · obtain ⟨a1, a2⟩ := push H1 s1 hL rfl
          exact ⟨⟨_, rfl⟩, a1, a2⟩
      | true =>
        obtain ⟨z, rfl⟩ := t3 rfl
        refine iteT ?_
        refine ⟨_, rfl, Nat.zero_le _, fun e he => ?_⟩
        have hL2 : upd H1 e (.lst []) q = some (.lst (g.map Pt.v)) := by
          rw [upd_ne (ne_of_none hL he)]
          exact hL
        have s2 : Same H (upd H1 e (.lst [])) := fun b o hb => by
          rw [upd_ne (ne_of_none (s1 b o hb) he)]
          exact s1 b o hb
        refine ⟨.list (g.map Pt.d), .list [], .lst (SqL.of hL2) (dp_parts g), .lst (SqL.of upd_same) .nil, shaped_parts g v4, by decide, _, rfl, ?_⟩
        rw [list_ne_nil]
        -- the elif: a piece behind no piece
        have elif : nstep g (.s z) = (if z = "" then g else g ++ [.s z]) → (tIfS (tTest (tOp rNe (tVar 2) (tC (.str "")))) (tDrop (tBM K "list" rAppend (tVar 1) (tCons (tVar 2) tNil))) tNext)
            { nx := fun σ H' => (∃ v : Option V, σ = [some (.ref a), some (.ref q), v]) ∧ Same H H' ∧ H' q = some (.lst ((nstep g (.s z)).map Pt.v)), rt := Q, ct := fun σ H' => (∃ v : Option V, σ = [some (.ref a), some (.ref q), v]) ∧ Same H H' ∧ H' q = some (.lst ((nstep g (.s z)).map Pt.v)), bk := fun _ _ => True }
            [some (.ref a), some (.ref q), some (.str z)] (upd H1 e (.lst [])) := fun en => by
          refine ⟨_, rfl, rfl, _, rfl, ?_⟩
          by_cases hz : z = ""
          · subst hz
            refine iteF' (by show (!decide (V.str "" = V.str "")) = false; rw [decide_eq_true rfl]; rfl) ?_
            refine ⟨⟨_, rfl⟩, s2, ?_⟩
            rw [hL2, en, if_pos rfl]
          · have ne : (V.str z ≠ V.str "") := fun e => hz (by injection e)
            refine iteT' (by show (!decide (V.str z = V.str "")) = true; rw [decide_eq_false ne]; rfl) ?_
            refine ⟨_, rfl, .inl ⟨rfl, _, SqL.of hL2⟩, _, rfl, q, _, _, rfl, rfl, hL2, ?_, ?_⟩
            · rw [List.length_map]
              exact Nat.lt_of_le_of_lt v3 (by decide)
            · rw [if_neg hz] at en
              obtain ⟨a1, a2⟩ := push _ s2 hL2 en
              exact ⟨⟨_, rfl⟩, a1, a2⟩
        rcases List.eq_nil_or_concat g with rfl | ⟨g', l, rfl⟩
        · refine iteF (iteF ?_)
          exact elif (nstep_first z)
        · rw [List.concat_eq_append] at *
          have en : (List.map Pt.d (g' ++ [l])).isEmpty = false := by
            rw [List.map_append]
            cases List.map Pt.d g' <;> rfl
          rw [en]
          refine iteT ?_
          have hL3 : upd H1 e (.lst []) q = some (.lst (g'.map Pt.v ++ [l.v])) := by
            rw [hL2, List.map_append]
            rfl
          obtain ⟨ty2, tb2, u1, u2, u3, u4⟩ := isi_pt (K := K) (H := upd H1 e (.lst [])) l
          refine ⟨_, rfl, _, rfl, q, _, _, l.v, rfl, rfl, SqL.of hL3, atI_last _ _, l.v, _, ty2, _, tb2, rfl, .ty _, u1, u2, _, rfl, ?_⟩
          cases tb2 with
          | false =>
            obtain ⟨j, rfl⟩ := u4 rfl
            refine iteF ?_
            exact elif (nstep_behind g' j z)
          | true =>
            obtain ⟨y', rfl⟩ := u3 rfl
            refine iteT ?_
            have hsz : y'.length + z.length ≤ sizeLine := by
              have e1 : lets (g' ++ [.s y']) = lets g' + y'.length := by rw [lets_app, lets_one]; rfl
              have e2 := (inv (i + 1)).2.1
              rw [step, nstep_glue, lets_app, lets_one] at e2
              have e3 : (Pt.s (y' ++ z)).let = y'.length + z.length := len_cat y' z
              exact Nat.le_trans (show y'.length + z.length ≤ 100000 by omega) (by decide)
            refine ⟨_, rfl, _, rfl, q, _, _, .str y', rfl, rfl, SqL.of hL3, atI_last _ _, _, rfl, y', z, rfl, rfl, hsz, _, rfl, _, rfl, q, _, _, g'.length, rfl, rfl, hL3, ?_, ?_⟩
            · rw [List.length_append, List.length_map, List.length_singleton]
              unfold ixN
              rw [if_neg (by omega), if_pos (by omega)]
              exact congrArg some (by omega)
            · refine ⟨⟨_, rfl⟩, fun b o hb => by rw [upd_ne (ne_of_none hb hq)]; exact s2 b o hb, ?_⟩
              rw [upd_same, nstep_glue, List.map_append]
              refine congrArg some (congrArg HO.lst ?_)
              rw [List.set_append_right _ _ (by rw [List.length_map]; exact Nat.le_refl _), List.length_map, Nat.sub_self]
              rfl
    · rintro σ H1 ⟨⟨v, rfl⟩, s1, hL⟩
      rw [List.length_map, List.take_length] at hL
      refine ⟨_, rfl, q, _, rfl, .inl ⟨SqL.of hL, fun t ht => ?_⟩⟩
      refine k t _ (fun b o e => by rw [upd_ne (ne_of_none (s1 b o e) ht)]; exact s1 b o e) (s1.free ht) upd_same
end

/-! ### tuples over tuples, as data -/
mutual
inductive Tp (H : Hp) : V → PyData → Prop
  | non : Tp H .non .none
  | bl (b : Bool) : Tp H (.bl b) (.bool b)
  | int (i : Int) : Tp H (.int i) (.int i)
  | str (x : Str) : Tp H (.str x) (.str x)
  | tup {a : Addr} {xs : List V} {ds : List PyData} : H a = some (.tup xs) → TpAll H xs ds → Tp H (.ref a) (.tuple ds)
inductive TpAll (H : Hp) : List V → List PyData → Prop
  | nil : TpAll H [] []
  | cons {v : V} {vs : List V} {d : PyData} {ds : List PyData} : Tp H v d → TpAll H vs ds → TpAll H (v :: vs) (d :: ds)
end
/-- all tuples stand -/
def TK (H H' : Hp) : Prop := ∀ b xs, H b = some (.tup xs) → H' b = some (.tup xs)
theorem TK.trans {H H1 H2 : Hp} (a : TK H H1) (b : TK H1 H2) : TK H H2 := fun x o e => b x o (a x o e)
mutual
theorem Tp.mono {H H' : Hp} (k : TK H H') : ∀ {v : V} {d : PyData}, Tp H v d → Tp H' v d
  | _, _, .non => .non
  | _, _, .bl b => .bl b
  | _, _, .int i => .int i
  | _, _, .str x => .str x
  | _, _, .tup h hs => .tup (k _ _ h) (TpAll.mono k hs)
theorem TpAll.mono {H H' : Hp} (k : TK H H') : ∀ {v : List V} {d : List PyData}, TpAll H v d → TpAll H' v d
  | _, _, .nil => .nil
  | _, _, .cons h hs => .cons (Tp.mono k h) (TpAll.mono k hs)
end
mutual
theorem Tp.dp {K : PySem.W.Frag} {H : Hp} : ∀ {v : V} {d : PyData}, Tp H v d → Dp K H v d
  | _, _, .non => .non
  | _, _, .bl b => .bl b
  | _, _, .int i => .int i
  | _, _, .str x => .str x
  | _, _, .tup h hs => .tup (SqT.of h) (TpAll.dp hs)
theorem TpAll.dp {K : PySem.W.Frag} {H : Hp} : ∀ {v : List V} {d : List PyData}, TpAll H v d → DpAll K H v d
  | _, _, .nil => .nil
  | _, _, .cons h hs => .cons (Tp.dp h) (TpAll.dp hs)
end
theorem tp_parts {H : Hp} : ∀ r : Rc, TpAll H (r.map Pt.v) (r.map Pt.d)
  | [] => .nil
  | .s z :: r => .cons (.str z) (tp_parts r)
  | .b i :: r => .cons (.int i) (tp_parts r)
theorem TpAll.map {H : Hp} {α : Type} {g : α → V} {e : α → PyData} : ∀ {l : List α}, (∀ x ∈ l, Tp H (g x) (e x)) → TpAll H (l.map g) (l.map e)
  | [], _ => .nil
  | x :: r, h => .cons (h x List.mem_cons_self) (TpAll.map fun y hy => h y (List.mem_cons_of_mem _ hy))
theorem TpAll.app {H : Hp} {a b : List V} {d e : List PyData} (h : TpAll H a d) (h2 : TpAll H b e) : TpAll H (a ++ b) (d ++ e) := by
  induction a generalizing d with
  | nil =>
    cases h
    exact h2
  | cons v r ih =>
    cases h with
    | cons h1 hr => exact .cons h1 (ih hr)
theorem TpAll.get {H : Hp} : ∀ {vs : List V} {ds : List PyData} {i : Nat} {d : PyData}, TpAll H vs ds → ds[i]? = some d → ∃ v, vs[i]? = some v ∧ Tp H v d
  | _, _, _, _, .nil, h => by simp at h
  | _, _, 0, _, .cons h _, e => by
    simp at e
    subst e
    exact ⟨_, rfl, h⟩
  | _, _, i + 1, _, .cons _ hs, e => by
    have e' : _ := e
    rw [List.getElem?_cons_succ] at e'
    obtain ⟨v, h1, h2⟩ := TpAll.get hs e'
    exact ⟨v, by rw [List.getElem?_cons_succ]; exact h1, h2⟩
theorem TpAll.len {H : Hp} : ∀ {vs : List V} {ds : List PyData}, TpAll H vs ds → vs.length = ds.length
  | _, _, .nil => rfl
  | _, _, .cons _ hs => by rw [List.length_cons, List.length_cons, TpAll.len hs]
theorem Same.tk {H H' : Hp} (s : Same H H') : TK H H' := fun b xs e => s b _ e
theorem Kp.tk {p c : Addr} {H H' : Hp} (k : Kp p c H H') (hP : Pen H p c) : TK H H' := fun b xs e => by
  obtain ⟨ns, i, j, h1, _⟩ := hP
  exact k.but b _ (ne_of e h1 (by intro z; cases z)) e
theorem tk_new {H : Hp} {q : Addr} {o : HO} (hq : H q = none) : TK H (upd H q o) := fun b xs e => by
  rw [upd_ne (ne_of_none e hq)]
  exact e
theorem tk_lst {H : Hp} {q : Addr} {ys : List V} {o : HO} (hq : H q = some (.lst ys)) : TK H (upd H q o) := fun b xs e => by
  rw [upd_ne (ne_of e hq (by intro z; cases z))]
  exact e
theorem same_new {H : Hp} {q : Addr} {o : HO} (hq : H q = none) : Same H (upd H q o) := fun b u e => by
  rw [upd_ne (ne_of_none e hq)]
  exact e
theorem Pen.same {H H' : Hp} {p c : Addr} (h : Pen H p c) (s : Same H H') : Pen H' p c := by
  obtain ⟨ns, i, j, h1, h2⟩ := h
  exact ⟨ns, i, j, s _ _ h1, s _ _ h2⟩
theorem Kp.same {H H1 H2 : Hp} {p c : Addr} (k : Kp p c H H1) (s : Same H1 H2) : Kp p c H H2 := ⟨fun b o n e => s b o (k.but b o n e), k.pen.same s⟩

/-! ### a heap without one list -/
def hide (H : Hp) (l : Addr) : Hp := fun b => if b = l then none else H b
theorem hide_ne {H : Hp} {l b : Addr} (h : b ≠ l) : hide H l b = H b := if_neg h
theorem hide_self {H : Hp} {l : Addr} : hide H l l = none := if_pos rfl
theorem Pen.hide {H : Hp} {p c l : Addr} (h : Pen H p c) (n1 : l ≠ p) (n2 : l ≠ c) : Pen (hide H l) p c := by
  obtain ⟨ns, i, j, h1, h2⟩ := h
  exact ⟨ns, i, j, by rw [hide_ne n1.symm]; exact h1, by rw [hide_ne n2.symm]; exact h2⟩
theorem Kp.hide0 {H : Hp} {p c l : Addr} (h : Pen H p c) : Kp p c (hide H l) H := by
  refine ⟨fun b o n e => ?_, h⟩
  by_cases hb : b = l
  · rw [hb, hide_self] at e
    cases e
  · rw [hide_ne hb] at e
    exact e
theorem Kp.thru {H H1 H2 : Hp} {p c l : Addr} (k1 : Kp p c H H1) (k2 : Kp p c (hide H1 l) H2) (hl : H l = none) : Kp p c H H2 :=
  ⟨fun b o n e => k2.but b o n (by rw [hide_ne (ne_of_none e hl)]; exact k1.but b o n e), k2.pen⟩
theorem Kp.unhide {H H' : Hp} {p c l b : Addr} {o : HO} (k : Kp p c (hide H l) H') (n : b ≠ p) (nl : b ≠ l) (h : H b = some o) : H' b = some o := k.but b o n (by rw [hide_ne nl]; exact h)
theorem Kp.freeH {H H' : Hp} {p c l t : Addr} {o : HO} (k : Kp p c (hide H l) H') (hl : H' l = some o) (ht : H' t = none) : H t = none := by
  have h := k.free ht
  rw [hide_ne (ne_of_none hl ht).symm] at h
  exact h

/-! ### lists of small numbers -/
def iN (ls : List Nat) : List Int := ls.map fun (i : Nat) => (i : Int)
theorem rg_eq (n : Nat) : rgV 0 (n : Int) = (iN (List.range n)).map V.int := by
  unfold rgV iN
  rw [List.map_map]
  have e : ((n : Int) - 0).toNat = n := by omega
  rw [e]
  refine List.map_congr_left fun i _ => ?_
  show V.int (0 + (i : Int)) = V.int (i : Int)
  rw [Int.zero_add]
theorem flat_ints (ns : List Int) : (ns.map V.int).all flatV = true := by
  rw [List.all_eq_true]
  intro x hx
  obtain ⟨z, _, rfl⟩ := List.mem_map.mp hx
  rfl
theorem first_hit {xs : List V} {t : V → Bool} (h : xs.any t = true) : ∃ (j : Nat) (z : V), xs[j]? = some z ∧ t z = true ∧ ∀ (m : Nat) (z' : V), m < j → xs[m]? = some z' → t z' = false := by
  induction xs with
  | nil => cases h
  | cons x r ih =>
    cases hx : t x with
    | true => exact ⟨0, x, rfl, hx, fun m _ hm => absurd hm (Nat.not_lt_zero m)⟩
    | false =>
      rw [List.any_cons, hx, Bool.false_or] at h
      obtain ⟨j, z, h1, h2, h3⟩ := ih h
      refine ⟨j + 1, z, by rw [List.getElem?_cons_succ]; exact h1, h2, fun m z' hm e => ?_⟩
      cases m with
      | zero =>
        obtain rfl : x = z' := Option.some.inj e
        exact hx
      | succ m =>
        rw [List.getElem?_cons_succ] at e
        exact h3 m z' (Nat.lt_of_succ_lt_succ hm) e
theorem erase_map {α β : Type} (g : α → β) : ∀ (l : List α) (k : Nat), (l.map g).eraseIdx k = (l.eraseIdx k).map g
  | [], _ => rfl
  | _ :: _, 0 => rfl
  | x :: r, k + 1 => by
    rw [List.map_cons, List.eraseIdx_cons_succ, List.eraseIdx_cons_succ, List.map_cons, erase_map g r k]

theorem erase_perm {α : Type} : ∀ (l : List α) (k : Nat) (h : k < l.length), (l[k] :: l.eraseIdx k).Perm l
  | x :: r, 0, _ => List.Perm.refl _
  | x :: r, k + 1, h => by
    rw [List.eraseIdx_cons_succ, List.getElem_cons_succ]
    exact (List.Perm.swap x _ _).trans ((erase_perm r k (Nat.lt_of_succ_lt_succ h)).cons x)


/-! ### a drawn recipe -/
def spFill : Sp := fun vs H Q _ => ∃ (p c l : Addr) (ls : List Nat) (own : Int), vs = [.ref p, .ref l, .int own] ∧ Pen H p c ∧ l ≠ p ∧ l ≠ c ∧ H l = some (.lst ((iN ls).map V.int)) ∧ ls.length ≤ 100 ∧
  ∀ (r : Rc) (t : Addr) (ls' : List Nat) H', Kp p c (hide H l) H' → H t = none → H' t = some (.tup (r.map Pt.v)) → H' l = some (.lst ((iN ls').map V.int)) → (bufs r ++ ls').Perm ls → lets r ≤ 10 → lowR r → r.length ≤ 5 → Q (.ref t) H'
theorem sc_fill : FnScope ["pen", "left", "own", "parts", "lap", "at"] ["pen", "left", "own"] (fnScope st_law_fill) := fnScope_by (by decide +kernel)
/-- between two turns: the parts so far at q, what is left at l -/
structure FI (H : Hp) (p c l q : Addr) (ls : List Nat) (n : Nat) (ps : Rc) (ls' : List Nat) (H' : Hp) : Prop where
  kp : Kp p c (hide H l) H'
  hq : H' q = some (.lst (ps.map Pt.v))
  hl : H' l = some (.lst ((iN ls').map V.int))
  perm : (bufs ps ++ ls').Perm ls
  lt : lets ps ≤ 2 * n
  len : ps.length ≤ n
  low : lowR ps
theorem FI.more {H : Hp} {p c l q : Addr} {ls : List Nat} {n m : Nat} {ps : Rc} {ls' : List Nat} {H' : Hp} (h : FI H p c l q ls n ps ls' H') (hm : n ≤ m) : FI H p c l q ls m ps ls' H' :=
  ⟨h.kp, h.hq, h.hl, h.perm, Nat.le_trans h.lt (Nat.mul_le_mul_left 2 hm), Nat.le_trans h.len hm, h.low⟩
theorem FI.drawn {H : Hp} {p c l q : Addr} {ls : List Nat} {n : Nat} {ps : Rc} {ls' : List Nat} {H1 H2 : Hp} (h : FI H p c l q ls n ps ls' H1) (np : q ≠ p) (nl : l ≠ p) (k : Kp p c H1 H2) : FI H p c l q ls n ps ls' H2 :=
  ⟨h.kp.trans k, k.but _ _ np h.hq, k.but _ _ nl h.hl, h.perm, h.lt, h.len, h.low⟩
theorem FI.new {H : Hp} {p c l q e : Addr} {o : HO} {ls : List Nat} {n : Nat} {ps : Rc} {ls' : List Nat} {H1 : Hp} (h : FI H p c l q ls n ps ls' H1) (he : H1 e = none) : FI H p c l q ls n ps ls' (upd H1 e o) :=
  ⟨h.kp.new he, by rw [upd_ne (ne_of_none h.hq he)]; exact h.hq, by rw [upd_ne (ne_of_none h.hl he)]; exact h.hl, h.perm, h.lt, h.len, h.low⟩
/-- a piece put behind -/
theorem FI.piece {H : Hp} {p c l q : Addr} {ls : List Nat} {n : Nat} {ps : Rc} {ls' : List Nat} {H1 : Hp} {z : Str} (hP : Pen (hide H l) p c) (hq : H q = none) (nq : q ≠ l) (h : FI H p c l q ls n ps ls' H1) (hz : Tx 2 z) :
    FI H p c l q ls (n + 1) (ps ++ [.s z]) ls' (upd H1 q (.lst (ps.map Pt.v ++ [.str z]))) := by
  have hq0 : hide H l q = none := by rw [hide_ne nq]; exact hq
  refine ⟨h.kp.put hP hq0, ?_, ?_, ?_, ?_, ?_, ?_⟩
  · rw [upd_same, List.map_append]
    rfl
  · rw [upd_ne nq.symm]
    exact h.hl
  · rw [bufs_app, bufs_one]
    show (bufs ps ++ [] ++ ls').Perm ls
    rw [List.append_nil]
    exact h.perm
  · rw [lets_app, lets_one]
    have a := h.lt
    have b : (Pt.s z).let ≤ 2 := hz.len
    omega
  · rw [List.length_append, List.length_singleton]
    have := h.len
    omega
  · exact lowR_app h.low (lowR_one hz.low)
/-- a buffer taken out of what is left, put behind -/
theorem FI.take {H : Hp} {p c l q : Addr} {ls : List Nat} {n : Nat} {ps : Rc} {ls' : List Nat} {H1 : Hp} {k : Nat} (hP : Pen (hide H l) p c) (hq : H q = none) (nq : q ≠ l) (h : FI H p c l q ls n ps ls' H1) (hk : k < ls'.length) :
    FI H p c l q ls (n + 1) (ps ++ [.b ls'[k]]) (ls'.eraseIdx k) (upd (upd H1 l (.lst (((iN ls').map V.int).eraseIdx k))) q (.lst (ps.map Pt.v ++ [.int ls'[k]]))) := by
  have hq0 : hide H l q = none := by rw [hide_ne nq]; exact hq
  refine ⟨(h.kp.put hP hide_self).put hP hq0, ?_, ?_, ?_, ?_, ?_, ?_⟩
  · rw [upd_same, List.map_append]
    rfl
  · rw [upd_ne nq.symm, upd_same]
    unfold iN
    rw [erase_map, erase_map]
  · rw [bufs_app, bufs_one]
    show (bufs ps ++ [ls'[k]] ++ ls'.eraseIdx k).Perm ls
    rw [List.append_assoc]
    exact ((erase_perm ls' k hk).append_left _).trans h.perm
  · rw [lets_app, lets_one]
    have a := h.lt
    show lets ps + 0 ≤ 2 * (n + 1)
    omega
  · rw [List.length_append, List.length_singleton]
    have := h.len
    omega
  · exact lowR_app h.low (lowR_one True.intro)
theorem menu012 : ∀ z ∈ ([0, 1, 1, 1, 1, 2] : List Int), 0 ≤ z ∧ z ≤ 2 := by decide
section
variable {P : Program} {w : World} {K : PySem.W.Frag} {mg : Str → Option Value} {base : Heap} {f : Addr} {fd : FuncData}
theorem cal_fill (F : C8.Def K mg "_law_fill" st_law_fill f fd) (b : Binds K fd ["pen", "left", "own"] []) (B : BN2 mg) (Cd : Cal P w K mg base 2 "_law_draw" spDraw []) (Co : Cal P w K mg base 3 "_law_one_of" (spOne K) [])
    (Cp : Cal P w K mg base 4 "_law_piece" spPiece []) (Cn : Cal P w K mg base 1 "_law_normal" (spNormal K) []) : Cal P w K mg base 5 "_law_fill" spFill [] := by
  refine cal0 F b .nil sc_fill (fun vs H Q E h => ?_) (fun cdv A outer s H vs Q E hr h => ?_)
  · obtain ⟨p, c, l, ls, own, rfl, _⟩ := h
    rfl
  · obtain ⟨p, c, l, ls, own, rfl, hP, nlp, nlc, hl, hln, k⟩ := h
    refine ⟨_, pss_cons (ps_set (i := 3) sc_fill.nd rfl (Or.inl rfl) (pe_lst pa_nil))
      (pss_cons (ps_for PassesOwn.never rfl (pi_range1 rfl B.range (pa_cons (pe_c Co hr (by decide) (by rfl) (pa_cons (pv 0) (pa_cons (pe_lst (pa_cons pe_int (pa_cons pe_int (pa_cons pe_int (pa_cons pe_int (pa_cons pe_int (pa_cons pe_int pa_nil))))))) pa_nil))) pa_nil)) (pg_name (i := 4) sc_fill.nd rfl (Or.inl rfl))
        (pss_cut (ps_if (pt_cmpR op_eq (pe_c Cd hr (by decide) (by rfl) (pa_cons (pv 0) (pa_cons pe_int pa_nil))) pe_int (nomark _))
            (pss_one (ps_expr (pe_bm PySem.F.plainAttrs_list PySem.F.slot_list_append PySem.F.type_list_append mt_append (pv 3) (pa_cons (pe_c Cp hr (by decide) (by rfl) (pa_cons (pv 0) (pa_cons pe_int pa_nil))) pa_nil)))) pss_nil)
          (pss_one (ps_if (pt_cmpR (op_neD hr.units) (pv 1) (pe_lst pa_nil) (nomark _))
            (pss_cut (ps_set (i := 5) sc_fill.nd rfl (Or.inl rfl) (pe_ifExp (PW.pt (pw_and (pt_cmpR op_in_seq (pv 2) (pv 1) (by with_unfolding_all rfl)) (pw_and1 (pt_cmpR op_gt (pe_c Cd hr (by decide) (by rfl) (pa_cons (pv 0) (pa_cons pe_int pa_nil))) pe_int (nomark _)))))
                (pe_bm PySem.F.plainAttrs_list PySem.F.slot_list_index PySem.F.type_list_index mt_index (pv 1) (pa_cons (pv 2) pa_nil))
                (pe_c Cd hr (by decide) (by rfl) (pa_cons (pv 0) (pa_cons (pe_callB call_len_seq (by rfl) B.len PySem.boot_len (pa_cons (pv 1) pa_nil)) pa_nil)))))
              (pss_one (ps_expr (pe_bm PySem.F.plainAttrs_list PySem.F.slot_list_append PySem.F.type_list_append mt_append (pv 3) (pa_cons (pe_bm PySem.F.plainAttrs_list PySem.F.slot_list_pop PySem.F.type_list_pop mt_popAt (pv 1) (pa_cons (pv 5) pa_nil)) pa_nil))))) pss_nil))))
      (pss_cut (ps_if (pt_cmpR op_eq (pe_c Cd hr (by decide) (by rfl) (pa_cons (pv 0) (pa_cons pe_int pa_nil))) pe_int (nomark _))
            (pss_one (ps_expr (pe_bm PySem.F.plainAttrs_list PySem.F.slot_list_append PySem.F.type_list_append mt_append (pv 3) (pa_cons (pe_c Cp hr (by decide) (by rfl) (pa_cons (pv 0) (pa_cons pe_int pa_nil))) pa_nil)))) pss_nil)
      (pss_one (ps_ret (pe_c Cn hr (by decide) (by rfl) (pa_cons (pv 3) pa_nil)))))), ?_⟩
    have hPh := hP.hide nlp nlc
    refine ⟨Nat.zero_le _, fun q hq => ?_⟩
    have nqp : q ≠ p := hP.ne hq
    have nql : q ≠ l := (ne_of_none hl hq).symm
    have I0 : FI H p c l q ls 0 [] ls (upd H q (.lst [])) := ⟨(Kp.hide0 hP).new hq, upd_same, by rw [upd_ne nql.symm]; exact hl, List.Perm.refl _, Nat.le_refl _, Nat.le_refl _, fun x hx => by cases hx⟩
    -- a piece, perhaps, in both places
    have perhaps : ∀ (n : Nat) (ps : Rc) (ls' : List Nat) (H1 : Hp) (G : Hp → Prop), n ≤ 100 → FI H p c l q ls n ps ls' H1 → (∀ ps' H2, FI H p c l q ls (n + 1) ps' ls' H2 → G H2) →
        ∀ (d : Int) (H2 : Hp), Kp p c H1 H2 → (if decide (V.int d = V.int 0) = true then
          (spPiece [.ref p, .int 2] H2 (fun x H3 => rAppend (.ref q) [x] H3 fun _ H4 => G H4) E0) else G H2) := by
      intro n ps ls' H1 G hn h kG d H2 kk
      have h2 := h.drawn nqp nlp kk
      refine ite2 (fun _ => ?_) (fun _ => ?_)
      · refine ⟨p, c, 2, rfl, h2.kp.pen, by decide, by decide, fun z H3 z0 hz k3 => ?_⟩
        have h3 := h2.drawn nqp nlp k3
        refine ⟨q, _, _, rfl, rfl, h3.hq, ?_, kG _ _ (h3.piece hPh hq nql hz)⟩
        rw [List.length_map]
        exact Nat.lt_of_le_of_lt (Nat.le_trans h.len hn) (by decide)
      · exact kG ps H2 (h2.more (Nat.le_succ _))
    refine ⟨_, rfl, (by show 6 ≤ sizeLine; decide), fun a ha => ⟨p, c, I0.kp.pen.new ha, .inl ⟨a, _, rfl, I0.kp.pen.ne ha, SqL.of upd_same, by decide, by decide, fun x H1 hx k1 => ?_⟩⟩⟩
    obtain ⟨m, hm, rfl⟩ : ∃ m : Nat, m ≤ 2 ∧ x = V.int m := by
      have hx' : x ∈ ([0, 1, 1, 1, 1, 2] : List Int).map V.int := hx
      obtain ⟨z, h1, h2⟩ := List.mem_map.mp hx'
      obtain ⟨h3, h4⟩ := menu012 z h1
      exact ⟨z.toNat, by omega, by rw [← h2, Int.toNat_of_nonneg h3]⟩
    have I1 := (I0.new (o := .lst ([0, 1, 1, 1, 1, 2].map V.int)) ha).drawn nqp nlp k1
    refine ⟨m, rfl, by omega, by omega, for_range (n := (m : Int).toNat) (fun i σ H' => (∃ v4 v5 : Option V, σ = [some (.ref p), some (.ref l), some (.int own), some (.ref q), v4, v5]) ∧ ∃ ps ls', FI H p c l q ls (2 * i) ps ls' H') ⟨⟨_, _, rfl⟩, _, _, I1⟩ ?_ ?_⟩
    · rintro i σ H2 hi ⟨⟨v4, v5, rfl⟩, ps, ls', I⟩
      refine ⟨fun σ H' => σ = [some (.ref p), some (.ref l), some (.int own), some (.ref q), some (.int (0 + (i : Int))), v5] ∧ ∃ ps, FI H p c l q ls (2 * i + 1) ps ls' H', ?_, ?_⟩
      · refine ⟨_, rfl, p, c, 3, rfl, I.kp.pen, by decide, by decide, fun d H3 d0 d1 k3 => ⟨rfl, _, rfl, ?_⟩⟩
        have I3 := I.drawn nqp nlp k3
        have z := perhaps (2 * i) ps ls' H2 (fun H' => [some (V.ref p), some (.ref l), some (.int own), some (.ref q), some (.int (0 + (i : Int))), v5] = [some (V.ref p), some (.ref l), some (.int own), some (.ref q), some (.int (0 + (i : Int))), v5] ∧ ∃ ps, FI H p c l q ls (2 * i + 1) ps ls' H') (by omega) I (fun ps' H4 h4 => ⟨rfl, ps', h4⟩) d H3 k3
        by_cases hd : decide (V.int d = V.int 0) = true
        · rw [if_pos hd] at z
          refine iteT' hd ?_
          exact ⟨_, rfl, .inl ⟨rfl, _, SqL.of I3.hq⟩, _, rfl, z⟩
        · rw [if_neg hd] at z
          exact iteF' (eq_false_of_ne_true hd) z
      · rintro σ H3 ⟨rfl, ps3, I3⟩
        refine ⟨_, rfl, Nat.zero_le _, fun e he => ?_⟩
        have I4 := I3.new (o := .lst []) he
        refine ⟨.list ((iN ls').map PyData.int), .list [], .lst (SqL.of I4.hl) (dp_ints _), .lst (SqL.of upd_same) .nil, shaped_ints _, by decide, _, rfl, ?_⟩
        rw [ints_ne_nil]
        by_cases hne : ls' = []
        · subst hne
          refine iteF ?_
          exact ⟨⟨_, _, rfl⟩, ps3, [], by rw [Nat.mul_succ]; exact I4.more (Nat.le_succ _)⟩
        · have hpos : 0 < ls'.length := List.length_pos_iff.mpr hne
          have hle : ls'.length ≤ 100 := by
            have := I4.perm.length_eq
            rw [List.length_append] at this
            omega
          have hem : (!(iN ls').isEmpty) = true := by
            cases ls' with
            | nil => exact absurd rfl hne
            | cons a r => rfl
          rw [hem]
          refine iteT ?_
          refine ⟨fun σ H' => (∃ k : Nat, k < ls'.length ∧ σ = [some (.ref p), some (.ref l), some (.int own), some (.ref q), some (.int (0 + (i : Int))), some (.int k)]) ∧ FI H p c l q ls (2 * i + 1) ps3 ls' H', ?_, ?_⟩
          · -- which one: the own one, or a drawn one
            have other : ∀ H4, FI H p c l q ls (2 * i + 1) ps3 ls' H4 → spDraw [.ref p, .int (((iN ls').map V.int).length : Nat)] H4 (fun x H' => (∃ k : Nat, k < ls'.length ∧ [some (V.ref p), some (.ref l), some (.int own), some (.ref q), some (.int (0 + (i : Int))), some x] = [some (.ref p), some (.ref l), some (.int own), some (.ref q), some (.int (0 + (i : Int))), some (.int k)]) ∧ FI H p c l q ls (2 * i + 1) ps3 ls' H') E0 := fun H4 J => by
              have en : ((iN ls').map V.int).length = ls'.length := by
                unfold iN
                rw [List.length_map, List.length_map]
              rw [en]
              refine ⟨p, c, _, rfl, J.kp.pen, by omega, log_small (by omega) (by omega), fun d H5 d0 d1 k5 => ⟨⟨d.toNat, by omega, ?_⟩, J.drawn nqp nlp k5⟩⟩
              rw [Int.toNat_of_nonneg d0]
            refine ⟨_, rfl, _, rfl, l, _, rfl, .inl (SqL.of I4.hl), rfl, flat_ints _, _, rfl, ?_⟩
            cases hin : inV (.int own) ((iN ls').map V.int) with
            | false =>
              refine iteF (iteF ?_)
              exact ⟨_, rfl, _, rfl, l, _, rfl, .inl (SqL.of I4.hl), other _ I4⟩
            | true =>
              refine iteT ?_
              refine ⟨_, rfl, p, c, 3, rfl, I4.kp.pen, by decide, by decide, fun d H5 d0 d1 k5 => ?_⟩
              have I5 := I4.drawn nqp nlp k5
              refine ⟨_, _, rfl, rfl, _, rfl, ?_⟩
              refine ite2 (fun _ => ?_) (fun _ => ?_)
              · obtain ⟨j, z, j1, j2, j3⟩ := first_hit (xs := (iN ls').map V.int) (t := fun y => eqV y (.int own)) hin
                have hj : j < ls'.length := by
                  have q := (List.getElem?_eq_some_iff.mp j1).1
                  unfold iN at q
                  rw [List.length_map, List.length_map] at q
                  exact q
                exact ⟨_, rfl, .inl ⟨rfl, _, SqL.of I5.hl⟩, _, rfl, l, _, _, j, z, rfl, rfl, SqL.of I5.hl, rfl, flat_ints _, j1, j2, j3, ⟨j, hj, rfl⟩, I5⟩
              · exact ⟨_, rfl, _, rfl, l, _, rfl, .inl (SqL.of I5.hl), other _ I5⟩
          · rintro σ H4 ⟨⟨k', hk, rfl⟩, I5⟩
            have hlen : ((iN ls').map V.int).length = ls'.length := by
              unfold iN
              rw [List.length_map, List.length_map]
            refine ⟨_, rfl, .inl ⟨rfl, _, SqL.of I5.hq⟩, _, rfl, .inl ⟨rfl, _, SqL.of I5.hl⟩, _, rfl, l, _, _, k', .int (ls'[k'] : Nat), rfl, rfl, I5.hl, by omega, by omega, ?_, ?_, ?_⟩
            · refine (ixN_seq (n := ((iN ls').map V.int).length) (i := (k' : Int)) (j := k') ?_).1
              unfold ixN
              rw [if_pos (by omega), if_pos (by omega)]
              exact congrArg some (by omega)
            · unfold iN
              rw [List.getElem?_map, List.getElem?_map, List.getElem?_eq_getElem hk]
              rfl
            · refine ⟨q, _, _, rfl, rfl, (by rw [upd_ne nql]; exact I5.hq), ?_, ⟨_, _, rfl⟩, ps3 ++ [.b ls'[k']], ls'.eraseIdx k', ?_⟩
              · rw [List.length_map]
                exact Nat.lt_of_le_of_lt (Nat.le_trans I5.len (show 2 * i + 1 ≤ 100 by omega)) (by decide)
              · rw [Nat.mul_succ]
                exact I5.take hPh hq nql hk
    · rintro σ H2 ⟨⟨v4, v5, rfl⟩, ps, ls', I⟩
      have I' := I.more (show 2 * (m : Int).toNat ≤ 4 by omega)
      refine ⟨fun σ H' => σ = [some (.ref p), some (.ref l), some (.int own), some (.ref q), v4, v5] ∧ ∃ ps, FI H p c l q ls 5 ps ls' H', ?_, ?_⟩
      · refine ⟨_, rfl, p, c, 2, rfl, I.kp.pen, by decide, by decide, fun d H3 d0 d1 k3 => ⟨rfl, _, rfl, ?_⟩⟩
        have I3 := I'.drawn nqp nlp k3
        have z := perhaps 4 ps ls' H2 (fun H' => [some (V.ref p), some (.ref l), some (.int own), some (.ref q), v4, v5] = [some (V.ref p), some (.ref l), some (.int own), some (.ref q), v4, v5] ∧ ∃ ps, FI H p c l q ls 5 ps ls' H') (by omega) I' (fun ps' H4 h4 => ⟨rfl, ps', h4⟩) d H3 k3
        by_cases hd : decide (V.int d = V.int 0) = true
        · rw [if_pos hd] at z
          refine iteT' hd ?_
          exact ⟨_, rfl, .inl ⟨rfl, _, SqL.of I3.hq⟩, _, rfl, z⟩
        · rw [if_neg hd] at z
          exact iteF' (eq_false_of_ne_true hd) z
      · rintro σ H3 ⟨rfl, ps3, I3⟩
        have hlen3 : ps3.length ≤ 5 := I3.len
        have hlet3 : lets ps3 ≤ 10 := I3.lt
        refine ⟨_, rfl, q, ps3, rfl, SqL.of I3.hq, Nat.le_trans hlen3 (by decide), Nat.le_trans hlet3 (by decide), I3.low, fun t H4 s4 t3 t4 => ?_⟩
        obtain ⟨n1, n2, n3, n4⟩ := normal_ok ps3 []
        refine k (normal ps3) t ls' H4 (I3.kp.same s4) (I3.kp.freeH I3.hl t3) t4 (s4 _ _ I3.hl) ?_ ?_ ?_ ?_
        · have e : bufs (normal ps3) = bufs ps3 := n1
          rw [e]
          exact I3.perm
        · have e : lets (normal ps3) = 0 + lets ps3 := n2
          omega
        · exact n4 (fun x hx => by cases hx) I3.low
        · have e : (normal ps3).length ≤ 0 + ps3.length := n3
          omega
end

/-! ### the recipes of an entry -/
def Rc.d (r : Rc) : PyData := .tuple (r.map Pt.d)
def fillsD (fs : List Rc) : PyData := .tuple (fs.map Rc.d)
/-- a recipe as it is drawn -/
structure ROk (r : Rc) : Prop where
  lt : lets r ≤ 10
  low : lowR r
  len : r.length ≤ 5
structure FOk (n : Nat) (fs : List Rc) : Prop where
  len : fs.length = n
  nd : (fs.flatMap bufs).Nodup
  lt : ∀ i ∈ fs.flatMap bufs, i < n
  each : ∀ r ∈ fs, ROk r
theorem tp_rc {H : Hp} {t : Addr} {r : Rc} (h : H t = some (.tup (r.map Pt.v))) : Tp H (.ref t) r.d := .tup h (tp_parts r)

/-- what a dict of recipes holds -/
abbrev Ent := Nat × Addr × Rc
def kvsE (xs : List Ent) : List (Key × V) := xs.map fun x => (Sum.inl (x.1 : Int), V.ref x.2.1)
def pickE (xs : List Ent) (n : Nat) : Addr × Rc := ((xs.find? fun x => decide (x.1 = n)).map (·.2)).getD (0, [])
theorem put_new (xs : List Ent) (n : Nat) (v : V) (h : n ∉ xs.map (·.1)) : putK (kvsE xs) (Sum.inl (n : Int)) v = kvsE xs ++ [(Sum.inl (n : Int), v)] := by
  unfold putK
  rw [if_neg]
  intro z
  rw [List.any_eq_true] at z
  obtain ⟨kv, h1, h2⟩ := z
  obtain ⟨x, h3, rfl⟩ := List.mem_map.mp h1
  have e : (Sum.inl (x.1 : Int) : Key) = Sum.inl (n : Int) := of_decide_eq_true h2
  have e2 : (x.1 : Int) = (n : Int) := Sum.inl.inj e
  have e3 : x.1 = n := by omega
  exact h (e3 ▸ List.mem_map_of_mem h3)
theorem pick_val : ∀ (xs : List Ent) (n : Nat), n ∈ xs.map (·.1) → valV (kvsE xs) (Sum.inl (n : Int)) = some (.ref (pickE xs n).1) ∧ (n, pickE xs n) ∈ xs
  | [], _, h => by cases h
  | x :: r, n, h => by
    by_cases hx : x.1 = n
    · have e1 : pickE (x :: r) n = x.2 := by
        unfold pickE
        rw [List.find?_cons_of_pos (by exact decide_eq_true hx)]
        rfl
      rw [e1]
      refine ⟨valV_pos (by show (Sum.inl (x.1 : Int) : Key) = Sum.inl (n : Int); rw [hx]), ?_⟩
      rw [← hx]
      exact List.mem_cons_self
    · have hr : n ∈ r.map (·.1) := by
        rw [List.map_cons] at h
        rcases List.mem_cons.mp h with h | h
        · exact absurd h.symm hx
        · exact h
      obtain ⟨h1, h2⟩ := pick_val r n hr
      have e1 : pickE (x :: r) n = pickE r n := by
        unfold pickE
        rw [List.find?_cons_of_neg (by intro z; exact hx (of_decide_eq_true z))]
      rw [e1]
      refine ⟨(valV_neg (p := (Sum.inl (x.1 : Int), V.ref x.2.1)) (r := kvsE r) (fun z => hx ?_)).trans h1, List.mem_cons_of_mem _ h2⟩
      have e2 : (x.1 : Int) = (n : Int) := Sum.inl.inj z
      omega
theorem pick_self : ∀ (xs : List Ent), (xs.map (·.1)).Nodup → ∀ x ∈ xs, pickE xs x.1 = x.2
  | [], _, _, h => by cases h
  | y :: r, nd, x, h => by
    rw [List.map_cons, List.nodup_cons] at nd
    rcases List.mem_cons.mp h with rfl | h
    · unfold pickE
      rw [List.find?_cons_of_pos (by exact decide_eq_true rfl)]
      rfl
    · have hne : ¬ y.1 = x.1 := fun z => nd.1 (z ▸ List.mem_map_of_mem h)
      have e1 : pickE (y :: r) x.1 = pickE r x.1 := by
        unfold pickE
        rw [List.find?_cons_of_neg (by intro z; exact hne (of_decide_eq_true z))]
      rw [e1]
      exact pick_self r nd.2 x h
theorem flat_same {α β : Type} {g h : α → List β} : ∀ {l : List α}, (∀ x ∈ l, g x = h x) → l.flatMap g = l.flatMap h
  | [], _ => rfl
  | x :: r, e => by rw [List.flatMap_cons, List.flatMap_cons, e x List.mem_cons_self, flat_same fun y hy => e y (List.mem_cons_of_mem _ hy)]
/-- behind the loop: the recipes in the buffers' order -/
theorem fok_of {n : Nat} {xs : List Ent} {os ls' : List Nat} (he : xs.map (·.1) = os) (ho : os.Perm (List.range n)) (hp : (xs.flatMap (fun x => bufs x.2.2) ++ ls').Perm (List.range n)) (hr : ∀ x ∈ xs, ROk x.2.2) :
    FOk n ((List.range n).map fun i => (pickE xs i).2) := by
  have nd : (xs.map (·.1)).Nodup := by rw [he]; exact ho.nodup_iff.mpr List.nodup_range
  have e1 : xs.flatMap (fun x => bufs x.2.2) = os.flatMap fun i => bufs (pickE xs i).2 := by
    rw [← he, List.flatMap_map]
    exact flat_same fun x hx => by rw [pick_self xs nd x hx]
  have e2 : (((List.range n).map fun i => (pickE xs i).2).flatMap bufs).Perm (xs.flatMap fun x => bufs x.2.2) := by
    rw [e1, List.flatMap_map]
    exact (ho.flatMap_right _).symm
  have nd2 : (xs.flatMap (fun x => bufs x.2.2)).Nodup := (List.nodup_append.mp (hp.nodup_iff.mpr List.nodup_range)).1
  refine ⟨by rw [List.length_map, List.length_range], e2.nodup_iff.mpr nd2, fun i hi => ?_, fun r hr' => ?_⟩
  · have h1 := hp.mem_iff.mp (List.mem_append_left ls' (e2.mem_iff.mp hi))
    exact List.mem_range.mp h1
  · obtain ⟨i, h1, rfl⟩ := List.mem_map.mp hr'
    have h2 : i ∈ xs.map (·.1) := by rw [he]; exact ho.mem_iff.mpr h1
    exact hr _ (pick_val xs i h2).2

def spFills : Sp := fun vs H Q _ => ∃ (p c : Addr) (n : Nat), vs = [.ref p, .int n] ∧ Pen H p c ∧ n ≤ 50 ∧
  ∀ (fs : List Rc) (t : Addr) H', Kp p c H H' → Tp H' (.ref t) (fillsD fs) → FOk n fs → Q (.ref t) H'
/-- a recipe, or None -/
def endD : Option Rc → PyData
  | none => .none
  | some r => r.d
/-- a recipe as it may stand at an end: drawn, or with a letter more -/
structure ROkE (r : Rc) : Prop where
  lt : lets r ≤ 12
  low : lowR r
  len : r.length ≤ 6
theorem ROk.e {r : Rc} (h : ROk r) : ROkE r := ⟨by have := h.lt; omega, h.low, by have := h.len; omega⟩
structure EOk (n : Nat) (r : Rc) : Prop where
  nd : (bufs r).Nodup
  lt : ∀ i ∈ bufs r, i < n
  ok : ROkE r
def spEnd : Sp := fun vs H Q _ => ∃ (p c : Addr) (n : Nat), vs = [.ref p, .int n] ∧ Pen H p c ∧ n ≤ 50 ∧
  ∀ (r : Option Rc) (x : V) H', Kp p c H H' → Tp H' x (endD r) → (∀ q, r = some q → EOk n q ∧ ROk q) → Q x H'
theorem sc_fills : FnScope ["pen", "buffers", "left", "order", "found", "buffer"] ["pen", "buffers"] (fnScope st_law_fills) := fnScope_by (by decide +kernel)
theorem sc_end : FnScope ["pen", "buffers"] ["pen", "buffers"] (fnScope st_law_end) := fnScope_by (by decide +kernel)
section
variable {P : Program} {w : World} {K : PySem.W.Frag} {mg : Str → Option Value} {base : Heap} {f : Addr} {fd : FuncData}
theorem cal_end (F : C8.Def K mg "_law_end" st_law_end f fd) (b : Binds K fd ["pen", "buffers"] []) (B : BN2 mg) (Cd : Cal P w K mg base 2 "_law_draw" spDraw []) (Cf : Cal P w K mg base 5 "_law_fill" spFill []) : Cal P w K mg base 6 "_law_end" spEnd [] := by
  refine cal0 F b .nil sc_end (fun vs H Q E h => ?_) (fun cdv A outer s H vs Q E hr h => ?_)
  · obtain ⟨p, c, n, rfl, _⟩ := h
    rfl
  · obtain ⟨p, c, n, rfl, hP, hn, k⟩ := h
    refine ⟨_, pss_one (ps_ret (pe_ifExp (pt_cmpR op_gt (pe_c Cd hr (by decide) (by rfl) (pa_cons (pv 0) (pa_cons pe_int pa_nil))) pe_int (nomark _))
      (pe_c Cf hr (by decide) (by rfl) (pa_cons (pv 0) (pa_cons (pe_listRg rfl (by rfl) B.list (prg_1 (by rfl) B.range (pv 1))) (pa_cons (pe_op op_sub (pv 1) pe_int) pa_nil)))) pe_non)), ?_⟩
    refine ⟨_, rfl, p, c, 5, rfl, hP, by decide, by decide, fun d H1 d0 d1 k1 => ⟨_, _, rfl, rfl, _, rfl, ?_⟩⟩
    refine ite2 (fun _ => ?_) (fun _ => ?_)
    · refine ⟨_, rfl, _, rfl, n, rfl, RgOk.of_le (by decide) (by omega) (by decide) (by omega), fun l hl => ⟨_, rfl, _, _, rfl, rfl, ?_⟩⟩
      have k2 := k1.new (o := .lst (rgV 0 (n : Int))) hl
      refine ⟨p, c, l, List.range n, _, rfl, k2.pen, k1.pen.ne hl, k1.pen.neC hl, by rw [upd_same, rg_eq], by rw [List.length_range]; omega, fun r t ls' H2 kk t0 t1 _ pm l1 l2 l3 => ?_⟩
      have k3 : Kp p c H H2 := k2.thru kk (k1.free hl)
      refine k (some r) _ H2 k3 (tp_rc t1) fun q e => ?_
      cases e
      have nd := (List.nodup_append.mp (pm.nodup_iff.mpr List.nodup_range)).1
      exact ⟨⟨nd, fun i hi => List.mem_range.mp (pm.mem_iff.mp (List.mem_append_left _ hi)), ROk.e ⟨l1, l2, l3⟩⟩, l1, l2, l3⟩
    · exact k none _ H1 k1 .non fun q e => by cases e
theorem cal_fills (F : C8.Def K mg "_law_fills" st_law_fills f fd) (b : Binds K fd ["pen", "buffers"] []) (B : BN2 mg) (Cd : Cal P w K mg base 2 "_law_draw" spDraw []) (Cf : Cal P w K mg base 5 "_law_fill" spFill []) : Cal P w K mg base 6 "_law_fills" spFills [] := by
  refine cal0 F b .nil sc_fills (fun vs H Q E h => ?_) (fun cdv A outer s H vs Q E hr h => ?_)
  · obtain ⟨p, c, n, rfl, _⟩ := h
    rfl
  · obtain ⟨p, c, n, rfl, hP, hn, k⟩ := h
    refine ⟨_, pss_cons (ps_set (i := 2) sc_fills.nd rfl (Or.inl rfl) (pe_listRg rfl (by rfl) B.list (prg_1 (by rfl) B.range (pv 1))))
      (pss_cut (ps_set (i := 3) sc_fills.nd rfl (Or.inl rfl) (pe_ifExp (pt_cmpR op_eq (pe_c Cd hr (by decide) (by rfl) (pa_cons (pv 0) (pa_cons pe_int pa_nil))) pe_int (nomark _)) (pe_revL (pv 2)) (pe_callTy call_list_of (by rfl) B.list (by decide +kernel) (pa_cons (pv 2) pa_nil))))
      (pss_cons (ps_set (i := 4) sc_fills.nd rfl (Or.inr rfl) pe_dnewK)
      (pss_cons (ps_for PassesOwn.never rfl (pi_list (pv 3)) (pg_name (i := 5) sc_fills.nd rfl (Or.inl rfl))
        (pss_one (ps_dput (hu_of hr) (pv 4) (pv 5) (pe_c Cf hr (by decide) (by rfl) (pa_cons (pv 0) (pa_cons (pv 2) (pa_cons (pv 5) pa_nil)))) rfl)))
      (pss_one (ps_ret (pe_callTy call_tuple_of (by rfl) B.tuple (by decide +kernel) (pa_cons (pe_lc (own := [("buffer", 5)]) (g := gName 5) (tt := tYes) (by rfl) sc_fills.nd (pi_range1 rfl B.range (pa_cons (pv 1) pa_nil))
        (blkOk_by (own := [("buffer", 5)]) (N := ["pen", "buffers", "left", "order", "found", "buffer"]) (sc := fnScope st_law_fills) (by decide +kernel)) (fun _ _ _ _ _ => pg_name (i := 5) sc_fills.nd rfl (Or.inl rfl)) (fun _ _ _ _ _ => pts_nil)
        (fun _ _ _ _ _ => pe_dget (hu_of hr) (pv 4) (pv 5) (fun _ _ => rfl))) pa_nil))))))), ?_⟩
    refine ⟨_, rfl, n, rfl, RgOk.of_le (by decide) (by omega) (by decide) (by omega), fun l hl => ?_⟩
    have kl : Kp p c H (upd H l (.lst (rgV 0 (n : Int)))) := (Kp.rfl' hP).new hl
    have nlp : l ≠ p := hP.ne hl
    have nlc : l ≠ c := hP.neC hl
    have hL : upd H l (.lst (rgV 0 (n : Int))) l = some (.lst ((iN (List.range n)).map V.int)) := by rw [upd_same, rg_eq]
    -- the order: the buffers, in one order
    refine ⟨fun σ H' => ∃ (o : Addr) (os : List Nat), σ = [some (.ref p), some (.int n), some (.ref l), some (.ref o), none, none] ∧ os.Perm (List.range n) ∧ Kp p c H H' ∧ H o = none ∧ o ≠ l ∧ H' o = some (.lst ((iN os).map V.int)) ∧ H' l = some (.lst ((iN (List.range n)).map V.int)), ?_, ?_⟩
    · refine ⟨_, rfl, p, c, 4, rfl, kl.pen, by decide, by decide, fun d H1 d0 d1 k1 => ⟨rfl, _, rfl, ?_⟩⟩
      have kA := kl.trans k1
      have hL1 := k1.but _ _ nlp hL
      refine ite2 (fun _ => ?_) (fun _ => ?_)
      · refine ⟨_, rfl, l, _, rfl, SqL.of hL1, fun o ho => ⟨o, (List.range n).reverse, rfl, List.reverse_perm _, kA.new ho, kA.free ho, (ne_of_none hL1 ho).symm, ?_, ?_⟩⟩
        · rw [upd_same]
          unfold iN
          rw [List.map_reverse, List.map_reverse]
        · rw [upd_ne (ne_of_none hL1 ho)]
          exact hL1
      · refine ⟨_, rfl, l, _, rfl, .inl (SqL.of hL1), fun o ho => ⟨o, List.range n, rfl, List.Perm.refl _, kA.new ho, kA.free ho, (ne_of_none hL1 ho).symm, upd_same, ?_⟩⟩
        rw [upd_ne (ne_of_none hL1 ho)]
        exact hL1
    · rintro σ H1 ⟨o, os, rfl, hos, k1, o0, nol, hO, hL1⟩
      intro D hD
      have nop : o ≠ p := hP.ne o0
      have hDl : D ≠ l := (ne_of_none hL1 hD).symm
      have hDo : D ≠ o := (ne_of_none hO hD).symm
      have D0 : H D = none := k1.free hD
      have nDp : D ≠ p := hP.ne D0
      refine ⟨_, rfl, o, rfl, ⟨_, (show SqL K (upd H1 D (.dK [])) o ((iN os).map V.int) from SqL.of (by rw [upd_ne hDo.symm]; exact hO))⟩, for_list (K := K) (a := o) (xs := (iN os).map V.int)
        (fun i σ H' => (∃ v : Option V, σ = [some (.ref p), some (.int n), some (.ref l), some (.ref o), some (.ref D), v]) ∧ Kp p c H H' ∧ H' o = some (.lst ((iN os).map V.int)) ∧ ∃ (xs : List Ent) (ls' : List Nat), xs.map (·.1) = os.take i ∧ H' D = some (.dK (kvsE xs)) ∧ H' l = some (.lst ((iN ls').map V.int)) ∧
          (xs.flatMap (fun x => bufs x.2.2) ++ ls').Perm (List.range n) ∧ ∀ x ∈ xs, H' x.2.1 = some (.tup (x.2.2.map Pt.v)) ∧ ROk x.2.2)
        ⟨⟨none, rfl⟩, k1.new hD, by rw [upd_ne hDo.symm]; exact hO, [], List.range n, rfl, upd_same, by rw [upd_ne hDl.symm]; exact hL1, List.Perm.refl _, fun x hx => by cases hx⟩ (fun i σ H' _ h => SqL.of h.2.2.1) ?_ ?_⟩
      · rintro i y σ H2 hi ⟨⟨v, rfl⟩, k2, hO2, xs, ls', ex, hD2, hL2, hp, hx⟩
        obtain ⟨z, hz, rfl⟩ : ∃ z, os[i]? = some z ∧ y = V.int (z : Nat) := by
          unfold iN at hi
          rw [List.map_map, List.getElem?_map] at hi
          cases e : os[i]? with
          | none =>
            rw [e] at hi
            cases hi
          | some u =>
            rw [e] at hi
            exact ⟨u, rfl, (Option.some.inj hi).symm⟩
        have hln : ls'.length ≤ 100 := by
          have := hp.length_eq
          rw [List.length_append, List.length_range] at this
          omega
        refine ⟨_, rfl, _, rfl, _, rfl, p, c, l, ls', _, rfl, k2.pen, nlp, nlc, hL2, hln, fun r t ls2 H3 k3 t0 t1 t2 pm l1 l2 l3 => ?_⟩
        have hD3 : H3 D = some (.dK (kvsE xs)) := k3.unhide nDp hDl hD2
        have hO3 := k3.unhide nop nol hO2
        have zn : z ∉ xs.map (·.1) := by
          rw [ex]
          intro zm
          have nd : os.Nodup := hos.nodup_iff.mpr List.nodup_range
          obtain ⟨j, hj⟩ := List.mem_iff_getElem?.mp zm
          have hji : j < i := by
            have := (List.getElem?_eq_some_iff.mp hj).1
            rw [List.length_take] at this
            omega
          rw [List.getElem?_take_of_lt hji] at hj
          have := nd_ix nd hj hz
          omega
        have hle : (kvsE xs).length ≤ 50 := by
          unfold kvsE
          rw [List.length_map]
          have e1 := congrArg List.length ex
          have e2 := hos.length_eq
          rw [List.length_map, List.length_take] at e1
          rw [List.length_range] at e2
          omega
        have putD : DPut H3 D (.int (z : Nat)) (.ref t) (upd H3 D (.dK (kvsE xs ++ [(Sum.inl (z : Int), .ref t)]))) := by
          have q := DPut.k (k := Sum.inl (z : Int)) (v := V.ref t) hD3 (Nat.lt_of_le_of_lt hle (by decide))
          rw [put_new xs z _ zn] at q
          exact q
        have hDt : D ≠ t := by
          have e : H2 D = some (.dK (kvsE xs)) := hD2
          exact ne_of_none e t0
        refine ⟨_, rfl, _, rfl, D, _, rfl, putD, ⟨_, rfl⟩, ?_, ?_, xs ++ [(z, t, r)], ls2, ?_, ?_, ?_, ?_, ?_⟩
        · exact (k2.thru k3 hl).put hP D0
        · rw [upd_ne hDo.symm]
          exact hO3
        · rw [List.map_append, ex, List.take_add_one, hz]
          rfl
        · rw [upd_same]
          unfold kvsE
          rw [List.map_append]
          rfl
        · rw [upd_ne hDl.symm]
          exact t2
        · rw [List.flatMap_append, List.flatMap_cons, List.flatMap_nil, List.append_nil, List.append_assoc]
          exact (pm.append_left _).trans hp
        · intro x hm
          rcases List.mem_append.mp hm with hm | hm
          · obtain ⟨h1, h2⟩ := hx x hm
            refine ⟨?_, h2⟩
            rw [upd_ne (ne_of h1 hD2 (by intro q; cases q))]
            exact k3.unhide (by
              obtain ⟨ns, i', j', g1, _⟩ := k2.pen
              exact ne_of h1 g1 (by intro q; cases q)) (ne_of h1 hL2 (by intro q; cases q)) h1
          · obtain rfl := List.mem_singleton.mp hm
            refine ⟨?_, l1, l2, l3⟩
            rw [upd_ne hDt.symm]
            exact t1
      · rintro σ H2 ⟨⟨v, rfl⟩, k2, hO2, xs, ls', ex, hD2, hL2, hp, hx⟩
        have eos : ((iN os).map V.int).length = os.length := by
          unfold iN
          rw [List.length_map, List.length_map]
        rw [eos, List.take_length] at ex
        have fok := fok_of ex hos hp fun x hm => (hx x hm).2
        refine ⟨_, rfl, n, rfl, by omega, by omega, fun E hE => ?_⟩
        refine lc_range (lo := 0) (n := (n : Int).toNat) (fun i H' => Same H2 H' ∧ H' E = some (.lst ((List.range i).map fun j => V.ref (pickE xs j).1))) ⟨same_new hE, upd_same⟩ ?_ ?_
        · rintro i H3 hi ⟨s3, hE3⟩
          have him : i ∈ xs.map (·.1) := by
            rw [ex]
            exact hos.mem_iff.mpr (List.mem_range.mpr (by omega))
          refine ⟨rfl, ?_⟩
          refine ⟨_, rfl, _, rfl, D, V.ref (pickE xs i).1, rfl, ?_, ?_⟩
          · have q := DGet.k (k := Sum.inl (i : Int)) (s3 _ _ hD2)
            rw [(pick_val xs i him).1] at q
            have e : V.int (0 + (i : Int)) = kV (Sum.inl (i : Int)) := by
              rw [Int.zero_add]
              rfl
            rw [e]
            exact q
          · refine ⟨_, hE3, ?_, ?_, ?_⟩
            · rw [List.length_map, List.length_range]
              exact Nat.lt_of_lt_of_le (show i < 100 by omega) (by decide)
            · intro b' o' e'
              rw [upd_ne (ne_of_none e' hE)]
              exact s3 _ _ e'
            · rw [upd_same, List.range_succ, List.map_append]
              rfl
        · rintro H3 ⟨s3, hE3⟩
          refine ⟨E, _, rfl, .inl ⟨SqL.of hE3, fun t ht => ?_⟩⟩
          refine k _ t _ ((k2.same s3).new ht) (.tup upd_same ?_) fok
          rw [Int.toNat_natCast, List.map_map]
          refine TpAll.map fun i hi => ?_
          have him : i ∈ xs.map (·.1) := by
            rw [ex]
            exact hos.mem_iff.mpr hi
          have h1 := (hx _ (pick_val xs i him).2).1
          exact tp_rc (by rw [upd_ne (ne_of_none (s3 _ _ h1) ht)]; exact s3 _ _ h1)
end

/-! ### lists of data that are being made -/
/-- a list of data that is being made -/
def LAt (H : Hp) (R : Addr) (ds : List PyData) : Prop := ∃ vs, H R = some (.lst vs) ∧ TpAll H vs ds
theorem LAt.kp {p c R : Addr} {H1 H2 : Hp} {ds : List PyData} (h : LAt H1 R ds) (n : R ≠ p) (hP : Pen H1 p c) (k : Kp p c H1 H2) : LAt H2 R ds := by
  obtain ⟨vs, h1, h2⟩ := h
  exact ⟨vs, k.but _ _ n h1, h2.mono (k.tk hP)⟩
theorem LAt.same {R : Addr} {H1 H2 : Hp} {ds : List PyData} (h : LAt H1 R ds) (s : Same H1 H2) : LAt H2 R ds := by
  obtain ⟨vs, h1, h2⟩ := h
  exact ⟨vs, s _ _ h1, h2.mono (Same.tk s)⟩
theorem LAt.put {R q : Addr} {H1 : Hp} {ys : List V} {o : HO} {ds : List PyData} (h : LAt H1 R ds) (hq : H1 q = some (.lst ys)) (n : R ≠ q) : LAt (upd H1 q o) R ds := by
  obtain ⟨vs, h1, h2⟩ := h
  exact ⟨vs, by rw [upd_ne n]; exact h1, h2.mono (tk_lst hq)⟩
theorem LAt.push {R : Addr} {H1 : Hp} {vs : List V} {x : V} {d : PyData} {ds : List PyData} (hv : H1 R = some (.lst vs)) (ha : TpAll H1 vs ds) (hx : Tp H1 x d) : LAt (upd H1 R (.lst (vs ++ [x]))) R (ds ++ [d]) :=
  ⟨vs ++ [x], upd_same, (ha.mono (tk_lst hv)).app (.cons (hx.mono (tk_lst hv)) .nil)⟩

/-! ### writers -/
structure Wr where
  begins : List Str
  rules : List (List (Option (Nat × List Rc)))
  ends : List (Option Rc)
def entD : Option (Nat × List Rc) → PyData
  | none => .none
  | some (t, fs) => .tuple [.int t, fillsD fs]
def rowD (row : List (Option (Nat × List Rc))) : PyData := .tuple (row.map entD)
def Wr.d (W : Wr) : PyData := .tuple [.tuple (W.begins.map .str), .tuple (W.rules.map rowD), .tuple (W.ends.map endD)]
/-- an entry of a writer with S states and B buffers -/
def EntOk (S B : Nat) (e : Option (Nat × List Rc)) : Prop := ∀ t fs, e = some (t, fs) → t < S ∧ FOk B fs
structure WOk (k S B : Nat) (W : Wr) : Prop where
  b1 : W.begins.length = B
  b2 : ∀ z ∈ W.begins, Tx 2 z
  r1 : W.rules.length = S
  r2 : ∀ row ∈ W.rules, row.length = k ∧ ∀ e ∈ row, EntOk S B e
  e1 : W.ends.length = S
  e2 : ∀ e ∈ W.ends, ∀ q, e = some q → EOk B q
/-- the ends are as they were drawn -/
def Tight (W : Wr) : Prop := ∀ e ∈ W.ends, ∀ q, e = some q → ROk q
def spWriterT : Sp := fun vs H Q _ => ∃ (p c : Addr) (k sm bm : Nat), vs = [.ref p, .int k, .int sm, .int bm] ∧ Pen H p c ∧ k ≤ 40 ∧ 0 < sm ∧ sm ≤ 40 ∧ 0 < bm ∧ bm ≤ 40 ∧
  ∀ (W : Wr) (S B : Nat) (t : Addr) H', 1 ≤ S → S ≤ sm → 1 ≤ B → B ≤ bm → WOk k S B W → Tight W → Kp p c H H' → Tp H' (.ref t) W.d → Q (.ref t) H'
def spWriter : Sp := fun vs H Q _ => ∃ (p c : Addr) (k sm bm : Nat), vs = [.ref p, .int k, .int sm, .int bm] ∧ Pen H p c ∧ k ≤ 40 ∧ 0 < sm ∧ sm ≤ 40 ∧ 0 < bm ∧ bm ≤ 40 ∧
  ∀ (W : Wr) (S B : Nat) (t : Addr) H', 1 ≤ S → S ≤ sm → 1 ≤ B → B ≤ bm → WOk k S B W → Kp p c H H' → Tp H' (.ref t) W.d → Q (.ref t) H'
def nWriter : List Str := ["pen", "count", "states", "buffers", "begins", "rules", "state", "row", "kind", "target", "fills", "ends", "lap"]
theorem sc_writer : FnScope nWriter ["pen", "count", "states", "buffers"] (fnScope st_law_writer) := fnScope_by (by decide +kernel)
section
variable {P : Program} {w : World} {K : PySem.W.Frag} {mg : Str → Option Value} {base : Heap} {f : Addr} {fd : FuncData}
theorem cal_writerT (F : C8.Def K mg "_law_writer" st_law_writer f fd) (b : Binds K fd ["pen", "count", "states", "buffers"] []) (B : BN2 mg) (Cd : Cal P w K mg base 2 "_law_draw" spDraw []) (Cp : Cal P w K mg base 4 "_law_piece" spPiece [])
    (Cf : Cal P w K mg base 6 "_law_fills" spFills []) (Ce : Cal P w K mg base 6 "_law_end" spEnd []) : Cal P w K mg base 7 "_law_writer" spWriterT [] := by
  refine cal0 F b .nil sc_writer (fun vs H Q E h => ?_) (fun cdv A outer s H vs Q E hr h => ?_)
  · obtain ⟨p, c, k, sm, bm, rfl, _⟩ := h
    rfl
  · obtain ⟨p, c, kk, sm, bm, rfl, hP, hk, s0, s1, b0, b1, k⟩ := h
    refine ⟨_, pss_cons (ps_asg (pe_tup (pa_cons (pe_op op_add pe_int (pe_c Cd hr (by decide) (by rfl) (pa_cons (pv 0) (pa_cons (pv 2) pa_nil)))) (pa_cons (pe_op op_add pe_int (pe_c Cd hr (by decide) (by rfl) (pa_cons (pv 0) (pa_cons (pv 3) pa_nil)))) pa_nil)))
        (pg_tup rfl (pgs_cons (pg_name (i := 2) sc_writer.nd rfl (Or.inl rfl)) (pgs_cons (pg_name (i := 3) sc_writer.nd rfl (Or.inr rfl)) pgs_nil))))
      (pss_cons (ps_set (i := 4) sc_writer.nd rfl (Or.inl rfl) (pe_callTy call_tuple_of (by rfl) B.tuple (by decide +kernel) (pa_cons (pe_lc (own := [("lap", 12)]) (g := gName 12) (tt := tYes) (by rfl) sc_writer.nd (pi_range1 rfl B.range (pa_cons (pv 3) pa_nil))
          (blkOk_by (own := [("lap", 12)]) (N := nWriter) (sc := fnScope st_law_writer) (by decide +kernel)) (fun _ _ _ _ _ => pg_name (i := 12) sc_writer.nd rfl (Or.inl rfl)) (fun _ _ _ _ _ => pts_nil)
          (fun _ _ _ _ _ => pe_ifExp (pt_cmpR op_eq (pe_c Cd hr (by decide) (by rfl) (pa_cons (pv 0) (pa_cons pe_int pa_nil))) pe_int (nomark _)) (pe_c Cp hr (by decide) (by rfl) (pa_cons (pv 0) (pa_cons pe_int pa_nil))) pe_str)) pa_nil)))
      (pss_cons (ps_set (i := 5) sc_writer.nd rfl (Or.inl rfl) (pe_lst pa_nil))
      (pss_cons (ps_for PassesOwn.never rfl (pi_range1 rfl B.range (pa_cons (pv 2) pa_nil)) (pg_name (i := 6) sc_writer.nd rfl (Or.inl rfl))
        (pss_cons (ps_set (i := 7) sc_writer.nd rfl (Or.inl rfl) (pe_lst pa_nil))
        (pss_cons (ps_for PassesOwn.never rfl (pi_range1 rfl B.range (pa_cons (pv 1) pa_nil)) (pg_name (i := 8) sc_writer.nd rfl (Or.inl rfl))
          (pss_cons (ps_par (i := 9) (j := 10) rfl sc_writer.nd rfl rfl (by decide) rfl rfl (pa_cons (pe_c Cd hr (by decide) (by rfl) (pa_cons (pv 0) (pa_cons (pv 2) pa_nil))) (pa_cons (pe_c Cf hr (by decide) (by rfl) (pa_cons (pv 0) (pa_cons (pv 3) pa_nil))) pa_nil)) (by rfl))
          (pss_one (ps_expr (pe_bm PySem.F.plainAttrs_list PySem.F.slot_list_append PySem.F.type_list_append mt_append (pv 7)
            (pa_cons (pe_ifExp (pt_cmpR op_gt (pe_c Cd hr (by decide) (by rfl) (pa_cons (pv 0) (pa_cons pe_int pa_nil))) pe_int (nomark _)) (pe_tup (pa_cons (pv 9) (pa_cons (pv 10) pa_nil))) pe_non) pa_nil))))))
        (pss_one (ps_expr (pe_bm PySem.F.plainAttrs_list PySem.F.slot_list_append PySem.F.type_list_append mt_append (pv 5) (pa_cons (pe_callTy call_tuple_of (by rfl) B.tuple (by decide +kernel) (pa_cons (pv 7) pa_nil)) pa_nil)))))))
      (pss_cons (ps_setLc (i := 11) (own := [("state", 6)]) (g := gName 6) (tt := tYes) (by rfl) sc_writer.nd rfl rfl (sw_true rfl rfl rfl (by decide +kernel)) (pi_range1 rfl B.range (pa_cons (pv 2) pa_nil))
          (blkOk_by (own := [("state", 6)]) (N := nWriter) (sc := fnScope st_law_writer) (by decide +kernel)) (fun _ _ _ _ _ => pg_name (i := 6) sc_writer.nd rfl (Or.inl rfl)) (fun _ _ _ _ _ => pts_nil)
          (fun _ _ _ _ _ => pe_c Ce hr (by decide) (by rfl) (pa_cons (pv 0) (pa_cons (pv 3) pa_nil))))
      (pss_one (ps_ret (pe_tup (pa_cons (pv 4) (pa_cons (pe_callTy call_tuple_of (by rfl) B.tuple (by decide +kernel) (pa_cons (pv 5) pa_nil)) (pa_cons (pe_callTy call_tuple_of (by rfl) B.tuple (by decide +kernel) (pa_cons (pv 11) pa_nil)) pa_nil)))))))))), ?_⟩
    refine ⟨_, rfl, _, rfl, p, c, sm, rfl, hP, by omega, log_small (by omega) (by omega), fun d H1 d0 d1 k1 => ⟨_, _, rfl, rfl, _, rfl, _, rfl, p, c, bm, rfl, k1.pen, by omega, log_small (by omega) (by omega), fun g H2 g0 g1 k2 => ⟨_, _, rfl, rfl, ?_⟩⟩⟩
    obtain ⟨S, hS⟩ : ∃ S : Nat, 1 + d = (S : Int) := ⟨(1 + d).toNat, by omega⟩
    obtain ⟨Bf, hB⟩ : ∃ Bf : Nat, 1 + g = (Bf : Int) := ⟨(1 + g).toNat, by omega⟩
    have kA := k1.trans k2
    refine ⟨(by show 2 ≤ sizeLine; decide), fun t0 ht0 => ⟨t0, _, rfl, SqT.of upd_same, rfl, .int (S : Int), [.int (Bf : Int)], (by show [V.int (1 + d), V.int (1 + g)] = [V.int (S : Int), V.int (Bf : Int)]; rw [hS, hB]), .int (Bf : Int), [], rfl, rfl, ?_⟩⟩
    have kB := kA.new (o := .tup [.int (1 + d), .int (1 + g)]) ht0
    clear ht0
    generalize upd H2 t0 (.tup [.int (1 + d), .int (1 + g)]) = H3 at kB ⊢
    -- the begins
    refine ⟨_, rfl, Bf, rfl, by omega, by omega, fun D hD => ?_⟩
    refine lc_range (lo := 0) (n := (Bf : Int).toNat) (fun i H' => Kp p c H H' ∧ H D = none ∧ ∃ zs : List Str, H' D = some (.lst (zs.map V.str)) ∧ zs.length = i ∧ ∀ z ∈ zs, Tx 2 z) ⟨kB.new hD, kB.free hD, [], upd_same, rfl, fun z hz => by cases hz⟩ ?_ ?_
    · rintro i H4 hi ⟨k4, D0, zs, hD4, hl, hz⟩
      refine ⟨rfl, ?_⟩
      have nDp := hP.ne D0
      have done : ∀ (z : Str) (H5 : Hp), Tx 2 z → Kp p c H4 H5 → ∃ acc, H5 D = some (.lst acc) ∧ acc.length < sizeLine ∧ Kp p c H (upd H5 D (.lst (acc ++ [.str z]))) ∧ H D = none ∧ ∃ zs : List Str, upd H5 D (.lst (acc ++ [.str z])) D = some (.lst (zs.map V.str)) ∧ zs.length = i + 1 ∧ ∀ z ∈ zs, Tx 2 z := by
        intro z H5 hz5 k5
        refine ⟨_, k5.but _ _ nDp hD4, ?_, (k4.trans k5).put hP D0, D0, zs ++ [z], ?_, ?_, ?_⟩
        · rw [List.length_map]
          exact Nat.lt_of_lt_of_le (show zs.length < 1000 by omega) (by decide)
        · rw [upd_same, List.map_append]
          rfl
        · rw [List.length_append, hl]
          rfl
        · intro y hy
          rcases List.mem_append.mp hy with hy | hy
          · exact hz y hy
          · obtain rfl := List.mem_singleton.mp hy
            exact hz5
      refine ⟨_, rfl, p, c, 4, rfl, k4.pen, by decide, by decide, fun d' H5 d0' d1' k5 => ⟨rfl, _, rfl, ?_⟩⟩
      refine ite2 (fun _ => ?_) (fun _ => ?_)
      · exact ⟨_, rfl, p, c, 2, rfl, k5.pen, by decide, by decide, fun z H6 _ hz6 k6 => done z H6 hz6 (k5.trans k6)⟩
      · exact done "" H5 ⟨by decide, fun c hc => by cases hc⟩ k5
    rintro H4 ⟨k4, D0, zs, hD4, hzl, hz⟩
    refine ⟨D, _, rfl, .inl ⟨SqL.of hD4, fun tb htb => ?_⟩⟩
    have tpb : Tp (upd H4 tb (.tup (zs.map V.str))) (.ref tb) (.tuple (zs.map .str)) := .tup upd_same (TpAll.map fun z _ => .str z)
    have k5 := k4.new (o := .tup (zs.map V.str)) htb
    clear htb hD4
    generalize upd H4 tb (.tup (zs.map V.str)) = H5 at tpb k5 ⊢
    refine ⟨Nat.zero_le _, fun R hR => ?_⟩
    have R0 : H R = none := k5.free hR
    have nRp := hP.ne R0
    -- the rows
    refine ⟨_, rfl, S, rfl, by omega, by omega, for_range (n := (S : Int).toNat) (fun i σ H' => (∃ v6 v7 v8 v9 v10 : Option V, σ = [some (.ref p), some (.int kk), some (.int S), some (.int Bf), some (.ref tb), some (.ref R), v6, v7, v8, v9, v10, none, none]) ∧
      Kp p c H H' ∧ Tp H' (.ref tb) (.tuple (zs.map .str)) ∧ ∃ rows : List (List (Option (Nat × List Rc))), LAt H' R (rows.map rowD) ∧ rows.length = i ∧ ∀ row ∈ rows, row.length = kk ∧ ∀ e ∈ row, EntOk S Bf e)
      ⟨⟨_, _, _, _, _, rfl⟩, k5.new hR, tpb.mono (tk_new hR), [], ⟨[], upd_same, .nil⟩, rfl, fun row hrow => by cases hrow⟩ ?_ ?_⟩
    · rintro i σ H6 hi ⟨⟨v6, v7, v8, v9, v10, rfl⟩, k6, tb6, rows, hR6, hrl, hrow⟩
      refine ⟨Nat.zero_le _, fun w' hw => ?_⟩
      have w0 : H w' = none := k6.free hw
      have nwp := hP.ne w0
      have nRw : R ≠ w' := by
        obtain ⟨vs, h1, _⟩ := hR6
        exact ne_of_none h1 hw
      refine ⟨_, rfl, kk, rfl, by omega, by omega, for_range (n := (kk : Int).toNat) (fun j σ H' => (∃ v8 v9 v10 : Option V, σ = [some (.ref p), some (.int kk), some (.int S), some (.int Bf), some (.ref tb), some (.ref R), some (.int (0 + (i : Int))), some (.ref w'), v8, v9, v10, none, none]) ∧
        Kp p c H H' ∧ Tp H' (.ref tb) (.tuple (zs.map .str)) ∧ LAt H' R (rows.map rowD) ∧ ∃ es : List (Option (Nat × List Rc)), LAt H' w' (es.map entD) ∧ es.length = j ∧ ∀ e ∈ es, EntOk S Bf e)
        ⟨⟨_, _, _, rfl⟩, k6.new hw, tb6.mono (tk_new hw), hR6.same (same_new hw), [], ⟨[], upd_same, .nil⟩, rfl, fun e he => by cases he⟩ ?_ ?_⟩
      · rintro j σ H7 hj ⟨⟨v8, v9, v10, rfl⟩, k7, tb7, hR7, es, hw7, hel, hes⟩
        refine ⟨_, rfl, _, rfl, p, c, S, rfl, k7.pen, by omega, log_small (by omega) (by omega), fun tg H8 t0 t1 k8 => ?_⟩
        refine ⟨_, rfl, _, rfl, p, c, Bf, rfl, k8.pen, by omega, fun fs ft H9 k9 tf hf => ⟨_, _, rfl, ?_⟩⟩
        have k10 := k7.trans (k8.trans k9)
        have k79 := k8.trans k9
        have tb9 := tb7.mono (k79.tk k7.pen)
        have hR9 := hR7.kp nRp k7.pen k79
        obtain ⟨vs, hv9, ha9⟩ := hw7.kp nwp k7.pen k79
        refine ⟨_, rfl, .inl ⟨rfl, _, SqL.of hv9⟩, _, rfl, p, c, 6, rfl, k9.pen, by decide, by decide, fun d6 H10 _ _ k11 => ⟨_, _, rfl, rfl, _, rfl, ?_⟩⟩
        have tb10 := tb9.mono (k11.tk k9.pen)
        have hR10 := hR9.kp nRp k9.pen k11
        have hv10 := k11.but _ _ nwp hv9
        have ha10 := ha9.mono (k11.tk k9.pen)
        have tf10 := tf.mono (k11.tk k9.pen)
        have k12 := k10.trans k11
        have hlen : vs.length < sizeLine := by
          rw [ha10.len, List.length_map]
          exact Nat.lt_of_lt_of_le (show es.length < 1000 by omega) (by decide)
        refine ite2 (fun _ => ?_) (fun _ => ?_)
        · refine ⟨_, rfl, _, rfl, (by show 2 ≤ sizeLine; decide), fun et het => ?_⟩
          have he10 : upd H10 et (.tup [.int tg, .ref ft]) w' = some (.lst vs) := by
            rw [upd_ne (ne_of_none hv10 het)]
            exact hv10
          refine ⟨w', vs, _, rfl, rfl, he10, hlen, ⟨_, _, _, rfl⟩, (k12.new het).put hP w0, (tb10.mono (tk_new het)).mono (tk_lst he10), (hR10.same (same_new het)).put he10 nRw, es ++ [some (tg.toNat, fs)], ?_, ?_, ?_⟩
          · rw [List.map_append]
            refine LAt.push he10 (ha10.mono (tk_new het)) (.tup upd_same (.cons ?_ (.cons (tf10.mono (tk_new het)) .nil)))
            rw [Int.toNat_of_nonneg t0]
            exact .int tg
          · rw [List.length_append, hel]
            rfl
          · intro e hm
            rcases List.mem_append.mp hm with hm | hm
            · exact hes e hm
            · obtain rfl := List.mem_singleton.mp hm
              intro t' fs' he
              cases he
              exact ⟨by omega, hf⟩
        · refine ⟨w', vs, _, rfl, rfl, hv10, hlen, ⟨_, _, _, rfl⟩, k12.put hP w0, tb10.mono (tk_lst hv10), hR10.put hv10 nRw, es ++ [none], ?_, ?_, ?_⟩
          · rw [List.map_append]
            exact LAt.push hv10 ha10 .non
          · rw [List.length_append, hel]
            rfl
          · intro e hm
            rcases List.mem_append.mp hm with hm | hm
            · exact hes e hm
            · obtain rfl := List.mem_singleton.mp hm
              intro t' fs' he
              cases he
      · rintro σ H7 ⟨⟨v8, v9, v10, rfl⟩, k7, tb7, hR7, es, hw7, hel, hes⟩
        obtain ⟨vs, hv7, ha7⟩ := hw7
        refine ⟨_, rfl, .inl ⟨rfl, _, SqL.of (show H7 R = _ from hR7.choose_spec.1)⟩, _, rfl, w', vs, rfl, .inl ⟨SqL.of hv7, fun rt hrt => ?_⟩⟩
        obtain ⟨us, hu7, hb7⟩ := hR7.same (same_new (o := .tup vs) hrt)
        refine ⟨R, us, _, rfl, rfl, hu7, ?_, ⟨_, _, _, _, _, rfl⟩, (k7.new hrt).put hP R0, (tb7.mono (tk_new hrt)).mono (tk_lst hu7), rows ++ [es], ?_, ?_, ?_⟩
        · rw [hb7.len, List.length_map]
          exact Nat.lt_of_lt_of_le (show rows.length < 1000 by omega) (by decide)
        · rw [List.map_append]
          exact LAt.push hu7 hb7 (.tup upd_same (ha7.mono (tk_new hrt)))
        · rw [List.length_append, hrl]
          rfl
        · intro row hm
          rcases List.mem_append.mp hm with hm | hm
          · exact hrow row hm
          · obtain rfl := List.mem_singleton.mp hm
            exact ⟨by omega, hes⟩
    rintro σ H6 ⟨⟨v6, v7, v8, v9, v10, rfl⟩, k6, tb6, rows, hR6, hrl, hrow⟩
    -- the ends
    refine ⟨_, rfl, S, rfl, by omega, by omega, fun D2 hD2 => ?_⟩
    have nRD : R ≠ D2 := by
      obtain ⟨vs, h1, _⟩ := hR6
      exact ne_of_none h1 hD2
    refine lc_range (lo := 0) (n := (S : Int).toNat) (fun i H' => Kp p c H H' ∧ H D2 = none ∧ Tp H' (.ref tb) (.tuple (zs.map .str)) ∧ LAt H' R (rows.map rowD) ∧ ∃ es : List (Option Rc), LAt H' D2 (es.map endD) ∧ es.length = i ∧ ∀ e ∈ es, ∀ q, e = some q → EOk Bf q ∧ ROk q)
      ⟨k6.new hD2, k6.free hD2, tb6.mono (tk_new hD2), hR6.same (same_new hD2), [], ⟨[], upd_same, .nil⟩, rfl, fun e he => by cases he⟩ ?_ ?_
    · rintro i H7 hi ⟨k7, D20, tb7, hR7, es, hw7, hel, hes⟩
      refine ⟨rfl, ?_⟩
      have nD2p := hP.ne D20
      refine ⟨_, rfl, _, rfl, p, c, Bf, rfl, k7.pen, by omega, fun r x H8 k8 tx hx => ?_⟩
      obtain ⟨vs, hv8, ha8⟩ := hw7.kp nD2p k7.pen k8
      refine ⟨vs, hv8, ?_, (k7.trans k8).put hP D20, D20, (tb7.mono (k8.tk k7.pen)).mono (tk_lst hv8), (hR7.kp nRp k7.pen k8).put hv8 nRD, es ++ [r], ?_, ?_, ?_⟩
      · rw [ha8.len, List.length_map]
        exact Nat.lt_of_lt_of_le (show es.length < 1000 by omega) (by decide)
      · rw [List.map_append]
        exact LAt.push hv8 ha8 tx
      · rw [List.length_append, hel]
        rfl
      · intro e hm
        rcases List.mem_append.mp hm with hm | hm
        · exact hes e hm
        · obtain rfl := List.mem_singleton.mp hm
          exact hx
    · rintro H7 ⟨k7, D20, tb7, hR7, es, hw7, hel, hes⟩
      obtain ⟨us, hu7, hb7⟩ := hR7
      obtain ⟨vs, hv7, ha7⟩ := hw7
      refine ⟨_, rfl, _, rfl, R, us, rfl, .inl ⟨SqL.of hu7, fun ra hra => ?_⟩⟩
      refine ⟨_, rfl, D2, vs, rfl, .inl ⟨SqL.of (by rw [upd_ne (ne_of_none hv7 hra)]; exact hv7), fun ea hea => ?_⟩⟩
      refine ⟨(by show 3 ≤ sizeLine; decide), fun t ht => ?_⟩
      have s1' : TK H7 (upd (upd (upd H7 ra (.tup us)) ea (.tup vs)) t (.tup [.ref tb, .ref ra, .ref ea])) := ((tk_new hra).trans (tk_new hea)).trans (tk_new ht)
      refine k ⟨zs, rows, es⟩ S Bf t _ (by omega) (by omega) (by omega) (by omega) ⟨by show zs.length = Bf; omega, hz, by show rows.length = S; omega, hrow, by show es.length = S; omega, fun e he q hq => (hes e he q hq).1⟩ (fun e he q hq => (hes e he q hq).2) (((k7.new hra).new hea).new ht) (.tup upd_same (.cons (tb7.mono s1') (.cons (.tup ?_ (hb7.mono s1')) (.cons (.tup ?_ (ha7.mono s1')) .nil))))
      · exact (tk_new ht) _ _ ((tk_new hea) _ _ upd_same)
      · exact (tk_new ht) _ _ upd_same
theorem cal_writer (F : C8.Def K mg "_law_writer" st_law_writer f fd) (b : Binds K fd ["pen", "count", "states", "buffers"] []) (B : BN2 mg) (Cd : Cal P w K mg base 2 "_law_draw" spDraw []) (Cp : Cal P w K mg base 4 "_law_piece" spPiece [])
    (Cf : Cal P w K mg base 6 "_law_fills" spFills []) (Ce : Cal P w K mg base 6 "_law_end" spEnd []) : Cal P w K mg base 7 "_law_writer" spWriter [] := by
  obtain ⟨g, gd, ps, ds, h1, h2⟩ := (cal_writerT F b B Cd Cp Cf Ce).ex
  refine ⟨g, gd, ps, ds, h1.imp fun vs H Q E q => ?_, h2⟩
  obtain ⟨p, c, k, sm, bm, e1, e2, e3, e4, e5, e6, e7, kk⟩ := q
  exact ⟨p, c, k, sm, bm, e1, e2, e3, e4, e5, e6, e7, fun W S B t H' a1 a2 a3 a4 a5 _ a6 a7 => kk W S B t H' a1 a2 a3 a4 a5 a6 a7⟩
end

/-! ### repr of data -/
theorem str_len (s : String) : (Str.ofString s).length = s.length := ofString_length s
/-- data that may be shown: no deeper than k, its weight at most n -/
structure Neat (k n : Nat) (d : PyData) : Prop where
  lay : d.canLay0 = true
  sh : d.showable = true
  shorts : d.intsShort 13 = true
  dep : d.depth ≤ k
  wt : d.weight ≤ n
structure NeatAll (k n : Nat) (ds : List PyData) : Prop where
  lay : PyData.canLayAll0 ds = true
  sh : PyData.showableAll ds = true
  shorts : PyData.intsShortAll 13 ds = true
  dep : PyData.depthAll ds ≤ k
  wt : PyData.weightAll ds ≤ n
theorem Neat.le {k n k' n' : Nat} {d : PyData} (h : Neat k n d) (hk : k ≤ k') (hn : n ≤ n') : Neat k' n' d := ⟨h.lay, h.sh, h.shorts, Nat.le_trans h.dep hk, Nat.le_trans h.wt hn⟩
theorem NeatAll.le {k n k' n' : Nat} {d : List PyData} (h : NeatAll k n d) (hk : k ≤ k') (hn : n ≤ n') : NeatAll k' n' d := ⟨h.lay, h.sh, h.shorts, Nat.le_trans h.dep hk, Nat.le_trans h.wt hn⟩
theorem neat_none : Neat 0 0 .none := ⟨by simp only [PyData.canLay0], by simp only [PyData.showable], by simp only [PyData.intsShort], by simp only [PyData.depth, Nat.le_refl], by simp only [PyData.weight, Nat.le_refl]⟩
theorem neat_bool (b : Bool) : Neat 0 0 (.bool b) := ⟨by simp only [PyData.canLay0], by simp only [PyData.showable], by simp only [PyData.intsShort], by simp only [PyData.depth, Nat.le_refl], by simp only [PyData.weight, Nat.le_refl]⟩
theorem neat_str {z : Str} (h : PyData.strOk z = true) : Neat 0 z.length (.str z) := ⟨by simp only [PyData.canLay0, h], by simp only [PyData.showable], by simp only [PyData.intsShort], by simp only [PyData.depth, Nat.le_refl], by simp only [PyData.weight]; exact Nat.le_refl _⟩
theorem neat_int {i : Int} (h : i.natAbs < 10 ^ 9) : Neat 0 40 (.int i) := by
  have h2 : i.natAbs.log2 < 30 := by
    by_cases h0 : i.natAbs = 0
    · rw [h0]
      decide
    · rw [Nat.log2_lt h0]
      omega
  refine ⟨by simp only [PyData.canLay0], ?_, ?_, by simp only [PyData.depth, Nat.le_refl], ?_⟩
  · simp only [PyData.showable, decide_eq_true_eq]
    omega
  · simp only [PyData.intsShort, PyData.shown, decide_eq_true_eq]
    have q := int_text_length_le10 (a := i) (k := 12) (by decide) (Nat.lt_trans h (by decide))
    exact decide_eq_true (Nat.le_trans (Nat.le_of_eq (str_len _)) q)
  · simp only [PyData.weight]
    split <;> omega
theorem neatAll_nil {k : Nat} : NeatAll k 0 [] := ⟨by simp only [PyData.canLayAll0], by simp only [PyData.showableAll], by simp only [PyData.intsShortAll], by simp only [PyData.depthAll, Nat.zero_le], by simp only [PyData.weightAll, Nat.le_refl]⟩
theorem NeatAll.cons {k a b : Nat} {d : PyData} {ds : List PyData} (h : Neat k a d) (hs : NeatAll k b ds) : NeatAll k (a + 1 + b) (d :: ds) :=
  ⟨by simp only [PyData.canLayAll0, h.lay, hs.lay, Bool.and_self], by simp only [PyData.showableAll, h.sh, hs.sh, Bool.and_self], by simp only [PyData.intsShortAll, h.shorts, hs.shorts, Bool.and_self],
    by simp only [PyData.depthAll]; exact Nat.max_le.mpr ⟨h.dep, hs.dep⟩, by simp only [PyData.weightAll]; exact Nat.add_le_add (Nat.add_le_add_right h.wt 1) hs.wt⟩
theorem NeatAll.tup {k n : Nat} {ds : List PyData} (h : NeatAll k n ds) : Neat (k + 1) n (.tuple ds) :=
  ⟨by simp only [PyData.canLay0, h.lay], by simp only [PyData.showable, h.sh], by simp only [PyData.intsShort, h.shorts], by simp only [PyData.depth]; exact Nat.succ_le_succ h.dep, by simp only [PyData.weight]; exact h.wt⟩
theorem NeatAll.lst {k n : Nat} {ds : List PyData} (h : NeatAll k n ds) : Neat (k + 1) n (.list ds) :=
  ⟨by simp only [PyData.canLay0, h.lay], by simp only [PyData.showable, h.sh], by simp only [PyData.intsShort, h.shorts], by simp only [PyData.depth]; exact Nat.succ_le_succ h.dep, by simp only [PyData.weight]; exact h.wt⟩
theorem neatAll_map {α : Type} {k a : Nat} {g : α → PyData} : ∀ {l : List α}, (∀ x ∈ l, Neat k a (g x)) → NeatAll k (l.length * (a + 1)) (l.map g)
  | [], _ => by
    rw [List.length_nil, Nat.zero_mul]
    exact neatAll_nil
  | x :: r, h => by
    have q := NeatAll.cons (h x List.mem_cons_self) (neatAll_map (l := r) fun y hy => h y (List.mem_cons_of_mem _ hy))
    rw [List.map_cons, List.length_cons, Nat.succ_mul]
    exact q.le (Nat.le_refl _) (by omega)
theorem Neat.fits {k n : Nat} {d : PyData} (h : Neat k n d) (hk : k ≤ 50) (hn : n ≤ 1000000) : d.shown.length ≤ sizeLine := by
  have e : (2 : Nat) ^ 20 = 1048576 := by decide
  have hl : PyData.layable0 d = true := by
    show (PyData.canLay0 d && decide (PyData.depth d ≤ 64) && decide (PyData.weight d ≤ 2 ^ 20)) = true
    have d1 := h.dep
    have d2 := h.wt
    rw [h.lay, decide_eq_true (show d.depth ≤ 64 by omega), decide_eq_true (show d.weight ≤ 2 ^ 20 by omega)]
    rfl
  exact Nat.le_trans (PyProof.Rows.shown_le13 hl h.shorts) (by decide)

/-- repr(x), x some data -/
def rRepr (K : PySem.W.Frag) : List V → Hp → VK → Prop := fun xs H Q => ∃ (x : V) (d : PyData) (k n : Nat), xs = [x] ∧ Dp K H x d ∧ Neat k n d ∧ k ≤ 50 ∧ n ≤ 1000000 ∧ Q (.str d.shown) H
theorem call_repr {X : Cx} (hg : X.A.guards = some []) (hu : X.A.units + 64 < cLine) : CallR X (.builtin "repr") (rRepr X.K) := by
  intro pins s σ H xs us Q I rel h
  obtain ⟨x, d, k, n, rfl, hd, hn, hk, hw, q⟩ := h
  obtain ⟨u, rfl, ru⟩ := vals1 rel
  obtain ⟨as, rr⟩ := Dp.reads I d x u hd ru
  have fits := hn.fits hk hw
  cases hd with
  | non =>
    cases ru
    exact PySem.P.repr_of_none ⟨.str _, H, I.tok _, ⟨_, rfl⟩, q⟩
  | bl b =>
    cases ru
    exact PySem.P.repr_of_bool ⟨.str _, H, I.tok _, ⟨_, rfl⟩, q⟩
  | int i =>
    obtain ⟨t, rfl⟩ := ru
    exact PySem.P.repr_of_int (by have := hn.sh; simpa only [PyData.showable, decide_eq_true_eq] using this) ⟨.str _, H, I.tok _, ⟨_, rfl⟩, q⟩
  | str z =>
    obtain ⟨t, rfl⟩ := ru
    exact PySem.P.repr_of_str ⟨.str _, H, I.tok _, ⟨_, rfl⟩, q⟩ fits
  | lst _ _ =>
    cases ru
    have dd := hn.dep
    exact repr_of_reads' rr hn.sh (PyData.noDict_hsm (PyData.hasDict_of_canLay _ hn.lay)) hg (by omega) (fun _ _ e => e) (fun h' u tk kk => ⟨.str _, H, I.kept kk, ⟨_, rfl⟩, q⟩) fits
  | tup _ _ =>
    cases ru
    have dd := hn.dep
    exact repr_of_reads' rr hn.sh (PyData.noDict_hsm (PyData.hasDict_of_canLay _ hn.lay)) hg (by omega) (fun _ _ e => e) (fun h' u tk kk => ⟨.str _, H, I.kept kk, ⟨_, rfl⟩, q⟩) fits

/-! ### a def that is called where no container is being shown -/
structure FnG (P : Program) (w : World) (K : PySem.W.Frag) (mg : Str → Option Value) (base : Heap) (k : Nat) (f : Addr) (fd : FuncData) (ps : List Str) (sp : Sp) : Prop where
  many : ∀ vs H Q E, sp vs H Q E → vs.length = ps.length
  goes : ∀ (A : Around) (outer : List Env) (s : Shared) (H : Hp) (args : Args) (us : List Value) (vs : List V) (Q : VK) (E : XK), A.guards = some [] → Room k A → Env0 P w K mg base A outer s H → BindsTo s fd args (ps.zip us) → Vals vs us →
    sp vs H Q E → codeAny (model P w) A (.call (.ref f) args) (CR CX0 outer P w H s Q E) s
section
open PySem.Spec PyProof.Rows
variable {P : Program} {w : World} {K : PySem.W.Frag} {mg : Str → Option Value} {base : Heap}
/-- by its body -/
theorem fnG_by {x qual : Str} {st : Stmt} {f : Addr} {fd : FuncData} {N ps : List Str} {k : Nat} {sp : Sp} (F : C8.Fun K x qual st f fd) (sc : FnScope N ps (fnScope st)) (many : ∀ vs H Q E, sp vs H Q E → vs.length = ps.length)
    (body : ∀ (cdv : Value) (A : Around) (outer : List Env) (s : Shared) (H : Hp) (vs : List V) (Q : VK) (E : XK), A.guards = some [] → Room k (A.deeper (envOfC qual (fnScope st) s.heap.objs.size f cdv)) → sp vs H Q E →
      ∃ t, PSs (cxOf CX0 P w K mg base N qual (fnScope st) f cdv A outer s H E).nox (fnBody st) t ∧ t { nx := fun _ H1 => Q .non H1, rt := Q } (start N vs) H) : FnG P w K mg base (k + 1) f fd ps sp := by
  obtain ⟨oc, od, dV, kV, doc, pm, an, cdv, ct, osl, rfl, atF, code⟩ := F.ex
  constructor
  · exact many
  · intro A outer s H args us vs Q E gu room e0 binds rel asked
    have n := many _ _ _ _ asked
    have kept : ∀ b o, base.get? b = some o → s.heap.get? b = some o := fun b o e => (e0.bs b o e).1
    have inK := e0.mod.kin.keeps kept
    have local' : ∀ y ∈ ps.zip us, (fnScope st).names.lookup y.1 = some .local ∨ ((fnScope st).names.lookup y.1 = some .cell ∧ ((cellsFrom (s.heap.objs.size + 1) (fnScope st).names []).lookup y.1).isSome = true) := by
      rintro ⟨nm, v⟩ mem
      exact (sc.par nm (List.of_mem_zip mem).1).imp id fun c => ⟨c, PySem.W.cellsFrom_some _ _ _ (.inl c)⟩
    refine codeAny_call_function room.depth (inK _ _ atF) rfl sc.co sc.gen rfl (PySem.W.codeRec_of inK code) (binds _ _ _ _ (wpAny_newFunctionEnv_cells sc.kind local' fun env eqE s1 made => ?_))
    cases eqE
    refine ⟨(e0.mod.nolimit.keeps kept).keeps made.toInCall.keep, codeAny_func ?_⟩
    obtain ⟨t, hold, ask⟩ := body cdv A outer s H vs Q E gu (room.deeper _) asked
    refine wpAny_mono (hold.nox.run [] s1 (start N vs) H _ (inv_start sc room.hd e0 n rel made) ask) (fun fl s2 got => ?_) fun _ _ z => z
    cases fl
    case ret u =>
      obtain ⟨v, _, H1, J, rv, q⟩ := got
      exact ⟨v, H1, J.os, J.bare, J.base, J.hok, rv, q⟩
    case next =>
      obtain ⟨_, H1, J, q⟩ := got
      exact ⟨V.non, H1, J.os, J.bare, J.base, J.hok, rfl, q⟩
    case brk =>
      obtain ⟨_, _, _, q⟩ := got
      exact q.elim
    case cont =>
      obtain ⟨_, _, _, q⟩ := got
      exact q.elim
end

/-! ### the end: the law's own def, called with the script -/
section
open PySem.Spec PyProof.Rows
theorem are_vals : ∀ {us : List Value} {ns : List Int}, IntsAre us ns → Vals (ns.map V.int) us
  | _, _, .nil => .nil
  | _, _, .cons _ t r => .cons ⟨t, rfl⟩ (are_vals r)
theorem lawG_end {P : Program} {w : World} {K : PySem.W.Frag} {mg mb : Str → Option Value} {k : Nat} {fa a : Addr} {fd : FuncData} {x : Str} {sp : Sp} {s₁ : Shared} {us : List Value} {ns : List Int}
    (inK : K.In s₁.heap) (gl : s₁.heap.Ns mainGlobals mg) (bl : s₁.heap.Ns builtinsNs mb) (boot : ∀ y : Str, y ≠ "__name__" → mb y = bootBuiltins y) (lim : s₁.heap.NoLimit) (gens : s₁.gens = #[])
    (at_a : s₁.heap.get? a = some { cls := .type "list", data := .seq us.toArray }) (are : IntsAre us ns) (few : ns.length ≤ sizeLine) (room : Room k callerA)
    (F : ∀ base : Heap, K.In base → base.Ns mainGlobals mg → FnG P w K mg base k fa fd [x] sp) (binds : ∀ (s : Shared) (u : Value), BindsTo s fd ⟨[u], []⟩ [(x, u)])
    (asked : ∀ H : Hp, SqL K H a (ns.map V.int) → sp [.ref a] H (fun v _ => v = .bl true) fun _ _ _ => False) :
    codeAny (model P w) callerA (.call (.ref fa) ⟨[.ref a], []⟩) (fun r s' => r = .ok (.ret (.bool true)) ∧ OldK s₁.heap s'.heap ∧ s'.os = s₁.os ∧ AllBare s'.gens) s₁ := by
  have rel := are_vals are
  have n_us := are.length
  suffices core : ∀ H : Hp, (∀ b u, H b = some u → b = a ∧ u = .frz { cls := .type "list", data := .seq us.toArray } (.lst (ns.map V.int)) ∧ K.lookup a = none) → SqL K H a (ns.map V.int) →
      codeAny (model P w) callerA (.call (.ref fa) ⟨[.ref a], []⟩) (fun r s' => r = .ok (.ret (.bool true)) ∧ OldK s₁.heap s'.heap ∧ s'.os = s₁.os ∧ AllBare s'.gens) s₁ by
    cases inF : K.lookup a with
    | some o =>
      have same := inK a o inF
      rw [at_a] at same
      cases same
      refine core (fun _ => none) (fun b u z => by cases z) (.inr ⟨_, us.toArray, _, inF, rfl, rfl, rfl, ?_, ?_⟩)
      · rw [List.size_toArray, n_us]
        exact few
      · rw [List.toList_toArray]
        exact rel
    | none =>
      refine core (fun b => if b = a then some (.frz { cls := .type "list", data := .seq us.toArray } (.lst (ns.map V.int))) else none) (fun b u z => ?_) (.inl (.inr ⟨_, if_pos rfl⟩))
      by_cases e : b = a
      · refine ⟨e, ?_, inF⟩
        have z' : (if b = a then some (HO.frz { cls := .type "list", data := .seq us.toArray } (.lst (ns.map V.int))) else none) = some u := z
        rw [if_pos e] at z'
        exact (Option.some.inj z').symm
      · have z' : (if b = a then some (HO.frz { cls := .type "list", data := .seq us.toArray } (.lst (ns.map V.int))) else none) = some u := z
        rw [if_neg e] at z'
        cases z'
  intro H only sq
  have keepK : K.In (hidT s₁.heap H) := fun b o e => hidT_get (inK b o e) (by
    cases q : H b with
    | none => rfl
    | some u =>
      obtain ⟨e1, _, e2⟩ := only b u q
      rw [e1, e2] at e
      cases e)
  have keepN : ∀ {b : Addr} {m : Str → Option Value}, s₁.heap.Ns b m → (hidT s₁.heap H).Ns b m := by
    rintro b m ⟨o, es, ep, e, d, r⟩
    refine ⟨o, es, ep, hidT_get e ?_, d, r⟩
    cases q : H b with
    | none => rfl
    | some u =>
      obtain ⟨e1, _, _⟩ := only b u q
      rw [e1, at_a] at e
      cases e
      cases d
  have ok : HOk P w H s₁.heap := by
    intro b u q
    obtain ⟨rfl, rfl, _⟩ := only b u q
    exact ⟨at_a, (by rw [List.length_map]; exact few), us, _, rel, at_a⟩
  have start : Env0 P w K mg (hidT s₁.heap H) callerA [] s₁ H := by
    refine ⟨rfl, ⟨keepK, keepN gl, ⟨mb, keepN bl, boot⟩, ?_⟩, fun b o e => of_hidT e, Nat.le_of_eq (hidT_size _ _), trivial, fun b hb => ?_, ok, .of_eq gens⟩
    · obtain ⟨mc, h1, h2⟩ := lim
      exact ⟨mc, keepN h1, h2⟩
    · cases hb
  refine codeAny_mono ((F _ keepK (keepN gl)).goes callerA [] s₁ H ⟨[.ref a], []⟩ [.ref a] [.ref a] _ _ rfl room start (binds s₁ (.ref a)) (.cons rfl .nil) (asked H sq)) fun r s' got => ?_
  match r, got with
  | .error _, got => exact False.elim got
  | .ok .next, got => exact False.elim got
  | .ok .brk, got => exact False.elim got
  | .ok .cont, got => exact False.elim got
  | .ok (.ret u), got =>
    obtain ⟨v, H2, os, bare, un, ok2, ru, q⟩ := got
    have q' : v = .bl true := q
    rw [q'] at ru
    have eu : u = Value.bool true := ru
    refine ⟨by rw [eu], OldK.of_keep fun b o e => ?_, os, bare⟩
    cases z : H b with
    | none => exact un.keep b o e z (fun y => by cases y) (fun y => by cases y)
    | some y =>
      obtain ⟨rfl, rfl, _⟩ := only b y z
      rw [at_a] at e
      cases e
      exact (ok2 _ _ (un.frzs _ _ _ z)).1
/-- the goal that k_head leaves, from the law's promise -/
theorem walkG {l : PySem.W.OpenLaw} {k : Nat} {q : Program} {loose : List Str} {XP : (Str → Option Value) → Heap → Prop} {YP : World → Heap → Prop} {d : DefRec} {K : Params → PySem.W.Frag} {sp : PySem.W.Frag → Sp} {x : Str}
    (most : l.most = some 63) (noDflt : d.params.defaults = []) (room : Room k callerA) (inK : ∀ (w : World) (h : Heap), YP w h → (K w.params).In h)
    (F : ∀ (w : World) (mg : Str → Option Value) (fa : Addr) (h : Heap), (K w.params).In h → h.Ns mainGlobals mg → mg d.name = some (.ref fa) →
      ∃ fd : FuncData, (∀ (s : Shared) (u : Value), BindsTo s fd ⟨[u], []⟩ [(x, u)]) ∧ ∀ base : Heap, (K w.params).In base → base.Ns mainGlobals mg → FnG l.prog w (K w.params) mg base k fa fd [x] (sp (K w.params)))
    (asked : ∀ (K : PySem.W.Frag) (H : Hp) (a : Addr) (ns : List Int), ns.length ≤ 63 → SqL K H a (ns.map V.int) → sp K [.ref a] H (fun v _ => v = .bl true) fun _ _ _ => False) :
    PySem.W.WalkO q loose XP YP l.row.toRowW d [] (fun g us => PySem.call g us) := by
  refine Att.attach_call most noDflt fun w s₀ s₁ mg mb fa o pm cd doc a us ns G Y _ _ _ named obj are few gens => ?_
  have KX := inK w _ Y
  obtain ⟨fd, binds, hF⟩ := F w mg fa _ KX G.T.g named
  exact lawG_end KX G.T.g G.T.b G.T.builtins G.T.nolimit gens obj are (Nat.le_trans few (by decide)) room hF binds fun H sq => asked (K w.params) H a ns few sq
end

/-! ### data that is a tuple -/
theorem Tp.tup_inv {H : Hp} {v : V} {ds : List PyData} (h : Tp H v (.tuple ds)) : ∃ a xs, v = .ref a ∧ H a = some (.tup xs) ∧ TpAll H xs ds := by
  cases h with
  | tup h hs => exact ⟨_, _, rfl, h, hs⟩
theorem Tp.int_inv {H : Hp} {v : V} {i : Int} (h : Tp H v (.int i)) : v = .int i := by
  cases h
  rfl
theorem Tp.str_inv {H : Hp} {v : V} {z : Str} (h : Tp H v (.str z)) : v = .str z := by
  cases h
  rfl
theorem Tp.non_inv {H : Hp} {v : V} (h : Tp H v .none) : v = .non := by
  cases h
  rfl
theorem tpAll_strs {H : Hp} : ∀ {ts : List Str} {xs : List V}, TpAll H xs (ts.map .str) → xs = ts.map V.str
  | [], _, .nil => rfl
  | z :: r, _, .cons h hs => by rw [h.str_inv, tpAll_strs hs, List.map_cons]
theorem tpAll_ints {H : Hp} : ∀ {ns : List Int} {xs : List V}, TpAll H xs (ns.map .int) → xs = ns.map V.int
  | [], _, .nil => rfl
  | z :: r, _, .cons h hs => by rw [h.int_inv, tpAll_ints hs, List.map_cons]
theorem tpAll_parts {H : Hp} : ∀ {r : Rc} {xs : List V}, TpAll H xs (r.map Pt.d) → xs = r.map Pt.v
  | [], _, .nil => rfl
  | .s z :: r, _, .cons h hs => by rw [h.str_inv, tpAll_parts hs, List.map_cons]; rfl
  | .b i :: r, _, .cons h hs => by rw [h.int_inv, tpAll_parts hs, List.map_cons]; rfl
theorem Same.put {H H' : Hp} {q : Addr} {o : HO} (s : Same H H') (hq : H q = none) : Same H (upd H' q o) := fun b u e => by
  rw [upd_ne (ne_of_none e hq)]
  exact s b u e
/-- one part of a row of data that is a map -/
theorem TpAll.at {H : Hp} {α : Type} {g : α → PyData} {vs : List V} {l : List α} {i : Nat} {x : α} (h : TpAll H vs (l.map g)) (e : l[i]? = some x) : ∃ v, vs[i]? = some v ∧ Tp H v (g x) :=
  h.get (by rw [List.getElem?_map, e]; rfl)
theorem take_map_more {α β : Type} {l : List α} {g : α → β} {i : Nat} {x : α} (h : l[i]? = some x) : (l.take (i + 1)).map g = (l.take i).map g ++ [g x] := by
  rw [List.take_add_one, h, List.map_append]
  rfl
theorem ix_tupK {X : Cx} (K : PySem.W.Frag) (h : X.K = K := by rfl) : IxR X (rIxT K) := by
  rw [← h]
  exact ix_tup
theorem ix_listK {X : Cx} (K : PySem.W.Frag) (h : X.K = K := by rfl) : IxR X (rIxL K) := by
  rw [← h]
  exact ix_list
theorem isiK {X : Cx} (K : PySem.W.Frag) (h : X.K = K := by rfl) : CallR X (.builtin "isinstance") (rIsi K) := by
  rw [← h]
  exact call_isi
theorem op_catAK {X : Cx} (K : PySem.W.Frag) (h : X.K = K := by rfl) : OpR X (binaryOp .Add) (rCatA K) := by
  rw [← h]
  exact op_catA
theorem iN_app (a : List Nat) (j : Nat) : (iN (a ++ [j])).map V.int = (iN a).map V.int ++ [.int j] := by
  unfold iN
  rw [List.map_append, List.map_append]
  rfl

/-! ### what writers make of words -/
def ptx (ts : List Str) : Pt → Str
  | .s z => z
  | .b i => ts.getD i ""
/-- what a recipe makes of texts -/
def mk (ts : List Str) (r : Rc) : Str := Txt.join "" (r.map (ptx ts))
def tot (ts : List Str) : Nat := (ts.map (·.length)).sum
def lowT (ts : List Str) : Prop := ∀ z ∈ ts, ∀ c ∈ z.cps.toList, 97 ≤ c ∧ c ≤ 122
theorem getD_low {ts : List Str} (h : lowT ts) (i : Nat) : ∀ c ∈ (ts.getD i "").cps.toList, 97 ≤ c ∧ c ≤ 122 := by
  rw [List.getD_eq_getElem?_getD]
  cases e : ts[i]? with
  | none =>
    intro c hc
    have hc' : c ∈ ("" : Str).cps.toList := hc
    cases hc'
  | some z => exact h z (List.mem_of_getElem? e)
theorem mk_low {ts : List Str} {r : Rc} (h : lowT ts) (hr : lowR r) : ∀ c ∈ (mk ts r).cps.toList, 97 ≤ c ∧ c ≤ 122 := by
  intro c hc
  unfold mk at hc
  rw [join_cps] at hc
  obtain ⟨l, h1, h2⟩ := List.mem_flatten.mp hc
  obtain ⟨y, h3, rfl⟩ := List.mem_map.mp h1
  obtain ⟨q, h4, rfl⟩ := List.mem_map.mp h3
  cases q with
  | s z => exact hr _ h4 c h2
  | b i => exact getD_low h i c h2
theorem mk_len (ts : List Str) : ∀ r : Rc, (mk ts r).length = lets r + ((bufs r).map fun i => (ts.getD i "").length).sum := by
  intro r
  unfold mk
  rw [join_len, List.map_map]
  induction r with
  | nil => rfl
  | cons q r ih =>
    rw [List.map_cons, List.sum_cons, ih]
    cases q with
    | s z =>
      have e1 : lets (.s z :: r) = z.length + lets r := by
        unfold lets
        rw [List.map_cons, List.sum_cons]
        rfl
      have e2 : bufs (.s z :: r) = bufs r := by
        unfold bufs
        rw [List.flatMap_cons]
        rfl
      rw [e1, e2, Nat.add_assoc]
      rfl
    | b i =>
      have e1 : lets (.b i :: r) = lets r := by
        unfold lets
        rw [List.map_cons, List.sum_cons]
        exact Nat.zero_add _
      have e2 : bufs (.b i :: r) = i :: bufs r := by
        unfold bufs
        rw [List.flatMap_cons]
        rfl
      rw [e1, e2, List.map_cons, List.sum_cons]
      show (ts.getD i "").length + (lets r + _) = _
      omega
theorem perm_sum {l m : List Nat} (h : l.Perm m) : l.sum = m.sum := by
  induction h with
  | nil => rfl
  | cons x _ ih => rw [List.sum_cons, List.sum_cons, ih]
  | swap x y l => rw [List.sum_cons, List.sum_cons, List.sum_cons, List.sum_cons]; omega
  | trans _ _ a b => exact a.trans b
theorem sub_sum {g : Nat → Nat} : ∀ (l m : List Nat), l.Nodup → (∀ i ∈ l, i ∈ m) → (l.map g).sum ≤ (m.map g).sum
  | [], m, _, _ => Nat.zero_le _
  | a :: r, m, nd, h => by
    rw [List.nodup_cons] at nd
    have pm := List.perm_cons_erase (h a List.mem_cons_self)
    have e := perm_sum (pm.map g)
    rw [e, List.map_cons, List.map_cons, List.sum_cons, List.sum_cons]
    refine Nat.add_le_add_left (sub_sum r (m.erase a) nd.2 fun i hi => ?_) _
    have ne : i ≠ a := fun z => nd.1 (z ▸ hi)
    exact (List.mem_erase_of_ne ne).mpr (h i (List.mem_cons_of_mem _ hi))
theorem range_tot : ∀ (ts : List Str), ((List.range ts.length).map fun i => (ts.getD i "").length).sum = tot ts := by
  intro ts
  have e : (List.range ts.length).map (fun i => (ts.getD i "").length) = ts.map (·.length) := by
    refine List.ext_getElem (by rw [List.length_map, List.length_map, List.length_range]) fun i h1 h2 => ?_
    rw [List.length_map] at h2
    rw [List.getElem_map, List.getElem_map, List.getElem_range, List.getD_eq_getElem?_getD, List.getElem?_eq_getElem h2]
    rfl
  rw [e]
  rfl
theorem bufs_tot {ts : List Str} {l : List Nat} {n : Nat} (nd : l.Nodup) (h : ∀ i ∈ l, i < n) (e : ts.length = n) : (l.map fun i => (ts.getD i "").length).sum ≤ tot ts := by
  rw [← range_tot ts, e]
  exact sub_sum _ _ nd fun i hi => List.mem_range.mpr (h i hi)
theorem tot_all (ts : List Str) : ∀ fs : List Rc, tot (fs.map (mk ts)) = (fs.map lets).sum + ((fs.flatMap bufs).map fun i => (ts.getD i "").length).sum
  | [] => rfl
  | r :: fs => by
    have ih := tot_all ts fs
    unfold tot at ih ⊢
    rw [List.map_cons, List.map_cons, List.sum_cons, ih, mk_len, List.map_cons, List.sum_cons, List.flatMap_cons, List.map_append, List.sum_append]
    omega
theorem lets_all {n : Nat} : ∀ fs : List Rc, (∀ r ∈ fs, lets r ≤ n) → (fs.map lets).sum ≤ n * fs.length
  | [], _ => Nat.zero_le _
  | r :: fs, h => by
    have a := h r List.mem_cons_self
    have b := lets_all fs fun x hx => h x (List.mem_cons_of_mem _ hx)
    rw [List.map_cons, List.sum_cons, List.length_cons, Nat.mul_succ]
    omega
theorem tot_step {ts : List Str} {fs : List Rc} {n : Nat} (h : FOk n fs) (e : ts.length = n) : tot (fs.map (mk ts)) ≤ 10 * n + tot ts := by
  rw [tot_all]
  have a := lets_all fs fun r hr => (h.each r hr).lt
  have b := bufs_tot h.nd h.lt e
  rw [h.len] at a
  omega
theorem tot_mem : ∀ {ts : List Str} {z : Str}, z ∈ ts → z.length ≤ tot ts
  | y :: r, z, h => by
    unfold tot
    rw [List.map_cons, List.sum_cons]
    rcases List.mem_cons.mp h with rfl | h
    · omega
    · have := tot_mem h
      unfold tot at this
      omega
theorem mk_end {ts : List Str} {r : Rc} {n : Nat} (h : EOk n r) (e : ts.length = n) : (mk ts r).length ≤ 12 + tot ts := by
  rw [mk_len]
  have a := h.ok.lt
  have b := bufs_tot h.nd h.lt e
  omega

/-- where an entry leads from texts -/
def goE (ts : List Str) : Option (Nat × List Rc) → Option (Nat × List Str)
  | none => none
  | some (t, fs) => some (t, fs.map (mk ts))
/-- a kind more behind a situation -/
def stepW (W : Wr) (o : Option (Nat × List Str)) (k : Nat) : Option (Nat × List Str) :=
  match o with
  | none => none
  | some (st, ts) => goE ts ((W.rules.getD st []).getD k none)
def runW (W : Wr) (ns : List Nat) : Option (Nat × List Str) := ns.foldl (stepW W) (some (0, W.begins))
def tellW (W : Wr) (ns : List Nat) : Option Str :=
  match runW W ns with
  | none => none
  | some (st, ts) => match W.ends.getD st none with
    | none => none
    | some r => some (mk ts r)
def sitD : Option (Nat × List Str) → PyData
  | none => .none
  | some (st, ts) => .tuple [.int st, .tuple (ts.map .str)]
def txtD : Option Str → PyData
  | none => .none
  | some z => .str z
/-- a situation of a writer with S states, B buffers; its texts have at most n letters -/
structure SOk (S B n : Nat) (st : Nat) (ts : List Str) : Prop where
  st : st < S
  len : ts.length = B
  tot : tot ts ≤ n
  low : lowT ts
theorem ent_at {k S B : Nat} {W : Wr} (h : WOk k S B W) {st kd : Nat} (hs : st < S) (hk : kd < k) : ∃ row e, W.rules[st]? = some row ∧ row[kd]? = some e ∧ (W.rules.getD st []).getD kd none = e ∧ EntOk S B e := by
  have h1 : st < W.rules.length := by rw [h.r1]; exact hs
  have m1 := List.getElem_mem h1
  obtain ⟨r1, r2⟩ := h.r2 _ m1
  have h2 : kd < (W.rules[st]).length := by rw [r1]; exact hk
  refine ⟨W.rules[st], (W.rules[st])[kd], List.getElem?_eq_getElem h1, List.getElem?_eq_getElem h2, ?_, r2 _ (List.getElem_mem h2)⟩
  rw [List.getD_eq_getElem?_getD, List.getD_eq_getElem?_getD, List.getElem?_eq_getElem h1, Option.getD_some, List.getElem?_eq_getElem h2, Option.getD_some]
theorem step_ok {k S B n : Nat} {W : Wr} (h : WOk k S B W) {st kd : Nat} {ts : List Str} (hs : SOk S B n st ts) {t : Nat} {fs : List Rc} (he : EntOk S B (some (t, fs))) : SOk S B (n + 10 * B) t (fs.map (mk ts)) := by
  obtain ⟨h1, h2⟩ := he t fs rfl
  refine ⟨h1, by rw [List.length_map]; exact h2.len, ?_, fun z hz => ?_⟩
  · have a := tot_step h2 hs.len
    have b := hs.tot
    omega
  · obtain ⟨r, hr, rfl⟩ := List.mem_map.mp hz
    exact mk_low hs.low (h2.each r hr).low
theorem begin_ok {k S B : Nat} {W : Wr} (h : WOk k S B W) (hS : 1 ≤ S) : SOk S B (2 * B) 0 W.begins := by
  refine ⟨hS, h.b1, ?_, fun z hz => (h.b2 z hz).low⟩
  have e : ∀ l : List Str, (∀ z ∈ l, Tx 2 z) → tot l ≤ 2 * l.length := by
    intro l
    induction l with
    | nil => exact fun _ => Nat.zero_le _
    | cons z r ih =>
      intro hz
      have a := ih fun y hy => hz y (List.mem_cons_of_mem _ hy)
      have b := (hz z List.mem_cons_self).len
      unfold tot at a ⊢
      rw [List.map_cons, List.sum_cons, List.length_cons]
      omega
  have := e W.begins h.b2
  rw [h.b1] at this
  exact this
theorem stepW_none (W : Wr) (k : Nat) : stepW W none k = none := rfl
theorem fold_none (W : Wr) : ∀ l : List Nat, l.foldl (stepW W) none = none
  | [] => rfl
  | _ :: r => by rw [List.foldl_cons, stepW_none, fold_none W r]
/-- all situations on a word's way are in order -/
theorem run_ok {k S B : Nat} {W : Wr} (h : WOk k S B W) (hS : 1 ≤ S) {ns : List Nat} (hn : ∀ i ∈ ns, i < k) : ∀ st ts, runW W ns = some (st, ts) → SOk S B (2 * B + 10 * B * ns.length) st ts := by
  have main : ∀ (l : List Nat) (o : Option (Nat × List Str)) (n : Nat), (∀ i ∈ l, i < k) → (∀ st ts, o = some (st, ts) → SOk S B n st ts) → ∀ st ts, l.foldl (stepW W) o = some (st, ts) → SOk S B (n + 10 * B * l.length) st ts := by
    intro l
    induction l with
    | nil => exact fun o n _ ho st ts e => ho st ts e
    | cons a r ih =>
      intro o n hl ho st ts e
      rw [List.foldl_cons] at e
      have q := ih (stepW W o a) (n + 10 * B) (fun i hi => hl i (List.mem_cons_of_mem _ hi)) ?_ st ts e
      · refine ⟨q.st, q.len, Nat.le_trans q.tot ?_, q.low⟩
        rw [List.length_cons, Nat.mul_succ]
        omega
      · intro st' ts' e'
        cases o with
        | none => cases e'
        | some x =>
          obtain ⟨s0, t0⟩ := x
          have s1 := ho s0 t0 rfl
          obtain ⟨row, en, _, _, h3, h4⟩ := ent_at h s1.st (hl a List.mem_cons_self)
          have e2 : stepW W (some (s0, t0)) a = goE t0 en := congrArg (goE t0) h3
          rw [e2] at e'
          cases en with
          | none => cases e'
          | some y =>
            obtain ⟨t, fs⟩ := y
            cases e'
            exact step_ok (kd := a) h s1 h4
  intro st ts e
  exact main ns _ (2 * B) hn (fun st ts e => by cases e; exact begin_ok h hS) st ts e
theorem run_more (W : Wr) {ns : List Nat} {i x : Nat} (h : ns[i]? = some x) : runW W (ns.take (i + 1)) = stepW W (runW W (ns.take i)) x := foldl_more (stepW W) _ h


/-! ### words as data -/
def wordD (ns : List Nat) : PyData := .tuple ((iN ns).map .int)
theorem tp_word {H : Hp} {t : Addr} {ns : List Nat} (h : H t = some (.tup ((iN ns).map V.int))) : Tp H (.ref t) (wordD ns) := .tup h (TpAll.map fun z _ => .int z)
theorem Tp.word_inv {H : Hp} {v : V} {ns : List Nat} (h : Tp H v (wordD ns)) : ∃ a, v = .ref a ∧ H a = some (.tup ((iN ns).map V.int)) := by
  obtain ⟨a, xs, rfl, h1, h2⟩ := h.tup_inv
  rw [tpAll_ints h2] at h1
  exact ⟨a, rfl, h1⟩

/-! ### drawn words as rows of numbers -/
theorem iN_nat {b : Int} {n : Nat} {ks : List Int} (h : Wd b n ks) : ∃ ns : List Nat, ks = iN ns ∧ ns.length ≤ n ∧ ∀ i ∈ ns, (i : Int) < b := by
  refine ⟨ks.map Int.toNat, ?_, by rw [List.length_map]; exact h.1, fun i hi => ?_⟩
  · unfold iN
    rw [List.map_map]
    have e : ks.map ((fun (i : Nat) => (i : Int)) ∘ Int.toNat) = ks.map id := List.map_congr_left fun z hz => Int.toNat_of_nonneg (h.2 z hz).1
    rw [e, List.map_id]
  · obtain ⟨z, hz, rfl⟩ := List.mem_map.mp hi
    have := h.2 z hz
    omega

/-! ### recipes made -/
def spMade : Sp := fun vs H Q _ => ∃ (a t : V) (r : Rc) (ts : List Str), vs = [a, t] ∧ Tp H a r.d ∧ Tp H t (.tuple (ts.map .str)) ∧ (∀ i ∈ bufs r, i < ts.length) ∧ r.length ≤ 1000 ∧ (mk ts r).length ≤ 1000000 ∧
  ∀ H', Same H H' → Q (.str (mk ts r)) H'

theorem sc_made : FnScope ["recipe", "texts", "part"] ["recipe", "texts"] (fnScope st_made) := fnScope_by (by decide +kernel)
section
variable {P : Program} {w : World} {K : PySem.W.Frag} {mg : Str → Option Value} {base : Heap} {f : Addr} {fd : FuncData}
theorem cal_made (F : C8.Def K mg "_made" st_made f fd) (b : Binds K fd ["recipe", "texts"] []) (B : BN2 mg) : Cal P w K mg base 1 "_made" spMade [] := by
  refine cal0 F b .nil sc_made (fun vs H Q E h => ?_) (fun cdv A outer s H vs Q E hr h => ?_)
  · obtain ⟨a, t, r, ts, rfl, _⟩ := h
    rfl
  · obtain ⟨a, t, r, ts, rfl, ha, ht, hb, hl, hm, k⟩ := h
    obtain ⟨a, xs, rfl, ha1, ha2⟩ := ha.tup_inv
    obtain ⟨t, ys, rfl, ht1, ht2⟩ := ht.tup_inv
    obtain rfl := tpAll_parts ha2
    obtain rfl := tpAll_strs ht2
    refine ⟨_, pss_one (ps_ret (pe_join pe_str (pe_lc (own := [("part", 2)]) (g := gName 2) (tt := tYes) (by rfl) sc_made.nd (pi_tup (pv 0)) (blkOk_by (own := [("part", 2)]) (N := ["recipe", "texts", "part"]) (sc := fnScope st_made) (by decide +kernel))
      (fun _ _ _ _ _ => pg_name (i := 2) sc_made.nd rfl (Or.inl rfl)) (fun _ _ _ _ _ => pts_nil)
      (fun _ _ _ _ _ => pe_ifExp (pt_val (pe_callB (isiK K) (by rfl) B.isi (by decide +kernel) (pa_cons (pv 2) (pa_cons (pe_bltn (v := .ty "str") (by rfl) B.str (by decide +kernel) rfl) pa_nil)))) (pv 2) (pe_ix (ix_tupK K) (pv 1) (pv 2) (fun _ _ => rfl)))))), ?_⟩
    refine ⟨⟨_, rfl⟩, _, rfl, a, rfl, ⟨_, SqT.of ha1⟩, fun D hD => ?_⟩
    refine lc_tup (K := K) (a := a) (xs := r.map Pt.v) (fun i H' => Same H H' ∧ H' D = some (.lst (((r.take i).map (ptx ts)).map V.str))) ⟨same_new hD, upd_same⟩ (fun i H' _ h => SqT.of (h.1 _ _ ha1)) ?_ ?_
    · rintro i x H1 hi ⟨s1, hL⟩
      obtain ⟨q, hq, rfl⟩ : ∃ q, r[i]? = some q ∧ x = Pt.v q := by
        rw [List.getElem?_map] at hi
        cases e : r[i]? with
        | none =>
          rw [e] at hi
          cases hi
        | some y =>
          rw [e] at hi
          exact ⟨y, rfl, (Option.some.inj hi).symm⟩
      have more : ((r.take (i + 1)).map (ptx ts)).map V.str = ((r.take i).map (ptx ts)).map V.str ++ [V.str (ptx ts q)] := by
        rw [List.take_add_one, hq, List.map_append, List.map_append]
        rfl
      have done : ∃ acc, H1 D = some (.lst acc) ∧ acc.length < sizeLine ∧ Same H (upd H1 D (.lst (acc ++ [.str (ptx ts q)]))) ∧ upd H1 D (.lst (acc ++ [.str (ptx ts q)])) D = some (.lst (((r.take (i + 1)).map (ptx ts)).map V.str)) := by
        refine ⟨_, hL, ?_, Same.put s1 hD, by rw [upd_same, more]⟩
        rw [List.length_map, List.length_map, List.length_take]
        exact Nat.lt_of_le_of_lt (Nat.le_trans (Nat.min_le_right _ _) hl) (by decide)
      refine ⟨rfl, ?_⟩
      obtain ⟨ty, tb, t1, t2, t3, t4⟩ := isi_pt (K := K) (H := H1) q
      refine ⟨_, rfl, q.v, _, ty, _, tb, rfl, .ty _, t1, t2, _, rfl, ?_⟩
      cases tb with
      | true =>
        obtain ⟨z, rfl⟩ := t3 rfl
        exact iteT ⟨_, rfl, done⟩
      | false =>
        obtain ⟨j, rfl⟩ := t4 rfl
        have hj : j < ts.length := hb j (List.mem_flatMap.mpr ⟨_, List.mem_of_getElem? hq, List.mem_singleton.mpr rfl⟩)
        refine iteF ⟨_, rfl, _, rfl, t, _, (j : Int), .str (ptx ts (.b j)), rfl, rfl, SqT.of (s1 _ _ ht1), atI_nat ?_, done⟩
        rw [List.getElem?_map, List.getElem?_eq_getElem hj]
        show some (V.str ts[j]) = some (V.str (ts.getD j ""))
        rw [List.getD_eq_getElem?_getD, List.getElem?_eq_getElem hj]
        rfl
    · rintro H1 ⟨s1, hL⟩
      rw [List.length_map, List.take_length] at hL
      refine ⟨_, D, r.map (ptx ts), rfl, rfl, .inl (SqL.of hL), ?_, k _ s1⟩
      rw [← join_len]
      have e : (("" : Str)).length = 0 := by decide
      rw [e, Nat.mul_zero, Nat.add_zero]
      exact Nat.le_trans hm (by decide)
end

theorem sc_law_made : FnScope ["recipe", "texts", "part"] ["recipe", "texts"] (fnScope st_law_made) := fnScope_by (by decide +kernel)
section
variable {P : Program} {w : World} {K : PySem.W.Frag} {mg : Str → Option Value} {base : Heap} {f : Addr} {fd : FuncData}
theorem cal_law_made (F : C8.Def K mg "_law_made" st_law_made f fd) (b : Binds K fd ["recipe", "texts"] []) (B : BN2 mg) : Cal P w K mg base 1 "_law_made" spMade [] := by
  refine cal0 F b .nil sc_law_made (fun vs H Q E h => ?_) (fun cdv A outer s H vs Q E hr h => ?_)
  · obtain ⟨a, t, r, ts, rfl, _⟩ := h
    rfl
  · obtain ⟨a, t, r, ts, rfl, ha, ht, hb, hl, hm, k⟩ := h
    obtain ⟨a, xs, rfl, ha1, ha2⟩ := ha.tup_inv
    obtain ⟨t, ys, rfl, ht1, ht2⟩ := ht.tup_inv
    obtain rfl := tpAll_parts ha2
    obtain rfl := tpAll_strs ht2
    refine ⟨_, pss_one (ps_ret (pe_join pe_str (pe_lc (own := [("part", 2)]) (g := gName 2) (tt := tYes) (by rfl) sc_law_made.nd (pi_tup (pv 0)) (blkOk_by (own := [("part", 2)]) (N := ["recipe", "texts", "part"]) (sc := fnScope st_law_made) (by decide +kernel))
      (fun _ _ _ _ _ => pg_name (i := 2) sc_law_made.nd rfl (Or.inl rfl)) (fun _ _ _ _ _ => pts_nil)
      (fun _ _ _ _ _ => pe_ifExp (pt_val (pe_callB (isiK K) (by rfl) B.isi (by decide +kernel) (pa_cons (pv 2) (pa_cons (pe_bltn (v := .ty "str") (by rfl) B.str (by decide +kernel) rfl) pa_nil)))) (pv 2) (pe_ix (ix_tupK K) (pv 1) (pv 2) (fun _ _ => rfl)))))), ?_⟩
    refine ⟨⟨_, rfl⟩, _, rfl, a, rfl, ⟨_, SqT.of ha1⟩, fun D hD => ?_⟩
    refine lc_tup (K := K) (a := a) (xs := r.map Pt.v) (fun i H' => Same H H' ∧ H' D = some (.lst (((r.take i).map (ptx ts)).map V.str))) ⟨same_new hD, upd_same⟩ (fun i H' _ h => SqT.of (h.1 _ _ ha1)) ?_ ?_
    · rintro i x H1 hi ⟨s1, hL⟩
      obtain ⟨q, hq, rfl⟩ : ∃ q, r[i]? = some q ∧ x = Pt.v q := by
        rw [List.getElem?_map] at hi
        cases e : r[i]? with
        | none =>
          rw [e] at hi
          cases hi
        | some y =>
          rw [e] at hi
          exact ⟨y, rfl, (Option.some.inj hi).symm⟩
      have more : ((r.take (i + 1)).map (ptx ts)).map V.str = ((r.take i).map (ptx ts)).map V.str ++ [V.str (ptx ts q)] := by
        rw [List.take_add_one, hq, List.map_append, List.map_append]
        rfl
      have done : ∃ acc, H1 D = some (.lst acc) ∧ acc.length < sizeLine ∧ Same H (upd H1 D (.lst (acc ++ [.str (ptx ts q)]))) ∧ upd H1 D (.lst (acc ++ [.str (ptx ts q)])) D = some (.lst (((r.take (i + 1)).map (ptx ts)).map V.str)) := by
        refine ⟨_, hL, ?_, Same.put s1 hD, by rw [upd_same, more]⟩
        rw [List.length_map, List.length_map, List.length_take]
        exact Nat.lt_of_le_of_lt (Nat.le_trans (Nat.min_le_right _ _) hl) (by decide)
      refine ⟨rfl, ?_⟩
      obtain ⟨ty, tb, t1, t2, t3, t4⟩ := isi_pt (K := K) (H := H1) q
      refine ⟨_, rfl, q.v, _, ty, _, tb, rfl, .ty _, t1, t2, _, rfl, ?_⟩
      cases tb with
      | true =>
        obtain ⟨z, rfl⟩ := t3 rfl
        exact iteT ⟨_, rfl, done⟩
      | false =>
        obtain ⟨j, rfl⟩ := t4 rfl
        have hj : j < ts.length := hb j (List.mem_flatMap.mpr ⟨_, List.mem_of_getElem? hq, List.mem_singleton.mpr rfl⟩)
        refine iteF ⟨_, rfl, _, rfl, t, _, (j : Int), .str (ptx ts (.b j)), rfl, rfl, SqT.of (s1 _ _ ht1), atI_nat ?_, done⟩
        rw [List.getElem?_map, List.getElem?_eq_getElem hj]
        show some (V.str ts[j]) = some (V.str (ts.getD j ""))
        rw [List.getD_eq_getElem?_getD, List.getElem?_eq_getElem hj]
        rfl
    · rintro H1 ⟨s1, hL⟩
      rw [List.length_map, List.take_length] at hL
      refine ⟨_, D, r.map (ptx ts), rfl, rfl, .inl (SqL.of hL), ?_, k _ s1⟩
      rw [← join_len]
      have e : (("" : Str)).length = 0 := by decide
      rw [e, Nat.mul_zero, Nat.add_zero]
      exact Nat.le_trans hm (by decide)
end

/-! ### the program's runs, the law's runs -/
def spFilled : Sp := fun vs H Q _ => ∃ (a t : V) (fs : List Rc) (ts : List Str) (n : Nat), vs = [a, t] ∧ Tp H a (fillsD fs) ∧ Tp H t (.tuple (ts.map .str)) ∧ FOk n fs ∧ ts.length = n ∧ n ≤ 50 ∧ tot ts ≤ 900000 ∧
  ∀ (v : V) H', Same H H' → Tp H' v (.tuple ((fs.map (mk ts)).map .str)) → Q v H'
def spBehind : Sp := fun vs H Q _ => ∃ (a t : V) (W : Wr) (ns : List Nat) (k S B : Nat), vs = [a, t] ∧ Tp H a W.d ∧ Tp H t (wordD ns) ∧ WOk k S B W ∧ 1 ≤ S ∧ B ≤ 50 ∧ (∀ i ∈ ns, i < k) ∧ ns.length ≤ 1000 ∧
  ∀ (v : V) H', Same H H' → Tp H' v (sitD (runW W ns)) → Q v H'
def spTell : Sp := fun vs H Q _ => ∃ (a t : V) (W : Wr) (ns : List Nat) (k S B : Nat), vs = [a, t] ∧ Tp H a W.d ∧ Tp H t (wordD ns) ∧ WOk k S B W ∧ 1 ≤ S ∧ B ≤ 50 ∧ (∀ i ∈ ns, i < k) ∧ ns.length ≤ 1000 ∧
  ∀ (v : V) H', Same H H' → Tp H' v (txtD (tellW W ns)) → Q v H'
theorem fills_one {n : Nat} {fs : List Rc} {ts : List Str} (h : FOk n fs) (e : ts.length = n) (ht : tot ts ≤ 900000) (hn : n ≤ 50) {r : Rc} (hr : r ∈ fs) : (∀ i ∈ bufs r, i < ts.length) ∧ r.length ≤ 1000 ∧ (mk ts r).length ≤ 1000000 := by
  refine ⟨fun i hi => by rw [e]; exact h.lt i (List.mem_flatMap.mpr ⟨r, hr, hi⟩), Nat.le_trans (h.each r hr).len (by decide), ?_⟩
  have a := tot_mem (ts := fs.map (mk ts)) (List.mem_map_of_mem hr)
  have b := tot_step h e
  omega
theorem sc_filled : FnScope ["fills", "texts", "recipe"] ["fills", "texts"] (fnScope st_filled) := fnScope_by (by decide +kernel)
section
variable {P : Program} {w : World} {K : PySem.W.Frag} {mg : Str → Option Value} {base : Heap} {f : Addr} {fd : FuncData}
theorem cal_filled (F : C8.Def K mg "_filled" st_filled f fd) (b : Binds K fd ["fills", "texts"] []) (B : BN2 mg) (Cm : Cal P w K mg base 1 "_made" spMade []) : Cal P w K mg base 2 "_filled" spFilled [] := by
  refine cal0 F b .nil sc_filled (fun vs H Q E h => ?_) (fun cdv A outer s H vs Q E hr h => ?_)
  · obtain ⟨a, t, fs, ts, n, rfl, _⟩ := h
    rfl
  · obtain ⟨a, t, fs, ts, n, rfl, ha, ht, hf, hn, h50, htot, k⟩ := h
    obtain ⟨a, xs, rfl, ha1, ha2⟩ := ha.tup_inv
    refine ⟨_, pss_one (ps_ret (pe_callTy call_tuple_of (by rfl) B.tuple (by decide +kernel) (pa_cons (pe_lc (own := [("recipe", 2)]) (g := gName 2) (tt := tYes) (by rfl) sc_filled.nd (pi_tup (pv 0))
      (blkOk_by (own := [("recipe", 2)]) (N := ["fills", "texts", "recipe"]) (sc := fnScope st_filled) (by decide +kernel)) (fun _ _ _ _ _ => pg_name (i := 2) sc_filled.nd rfl (Or.inl rfl)) (fun _ _ _ _ _ => pts_nil)
      (fun _ _ _ _ _ => pe_c Cm hr (by decide) (by rfl) (pa_cons (pv 2) (pa_cons (pv 1) pa_nil)))) pa_nil))), ?_⟩
    refine ⟨_, rfl, a, rfl, ⟨_, SqT.of ha1⟩, fun D hD => ?_⟩
    have lenx : xs.length = fs.length := by rw [ha2.len, List.length_map]
    refine lc_tup (K := K) (a := a) (xs := xs) (fun i H' => Same H H' ∧ H' D = some (.lst (((fs.take i).map (mk ts)).map V.str))) ⟨same_new hD, upd_same⟩ (fun i H' _ h => SqT.of (h.1 _ _ ha1)) ?_ ?_
    · rintro i x H1 hi ⟨s1, hL⟩
      have hlt : i < fs.length := by
        have := (List.getElem?_eq_some_iff.mp hi).1
        omega
      obtain ⟨v, hv, tv⟩ := ha2.at (List.getElem?_eq_getElem hlt)
      rw [hi] at hv
      cases hv
      have mem := List.getElem_mem hlt
      obtain ⟨m1, m2, m3⟩ := fills_one hf hn htot h50 mem
      refine ⟨rfl, ?_⟩
      refine ⟨_, rfl, _, rfl, x, t, fs[i], ts, rfl, tv.mono (Same.tk s1), ht.mono (Same.tk s1), m1, m2, m3, fun H2 s2 => ?_⟩
      refine ⟨_, s2 _ _ hL, ?_, Same.put (Same.trans s1 s2) hD, ?_⟩
      · rw [List.length_map, List.length_map, List.length_take]
        exact Nat.lt_of_le_of_lt (Nat.le_trans (Nat.min_le_right _ _) (show fs.length ≤ 50 by rw [hf.len]; exact h50)) (by decide)
      · rw [upd_same, take_map_more (List.getElem?_eq_getElem hlt), List.map_append]
        rfl
    · rintro H1 ⟨s1, hL⟩
      rw [lenx, List.take_length] at hL
      refine ⟨D, _, rfl, .inl ⟨SqL.of hL, fun u hu => k _ _ (Same.trans s1 (same_new hu)) (.tup upd_same (TpAll.map fun z _ => .str z))⟩⟩
end

theorem end_at {k S B : Nat} {W : Wr} (h : WOk k S B W) {st : Nat} (hs : st < S) : ∃ e, W.ends[st]? = some e ∧ W.ends.getD st none = e ∧ ∀ q, e = some q → EOk B q := by
  have h1 : st < W.ends.length := by rw [h.e1]; exact hs
  exact ⟨W.ends[st], List.getElem?_eq_getElem h1, by rw [List.getD_eq_getElem?_getD, List.getElem?_eq_getElem h1, Option.getD_some], h.e2 _ (List.getElem_mem h1)⟩
theorem bound9 {B n : Nat} (h50 : B ≤ 50) (hn : n ≤ 1000) : 2 * B + 10 * B * n ≤ 600000 := by
  have e2 : 10 * B * n ≤ 10 * 50 * 1000 := Nat.mul_le_mul (Nat.mul_le_mul_left 10 h50) hn
  omega
theorem end_fits {S B n st : Nat} {ts : List Str} {r : Rc} (so : SOk S B n st ts) (h : EOk B r) (hn : n ≤ 600000) : (∀ i ∈ bufs r, i < ts.length) ∧ r.length ≤ 1000 ∧ (mk ts r).length ≤ 1000000 := by
  refine ⟨fun i hi => by rw [so.len]; exact h.lt i hi, Nat.le_trans h.ok.len (by decide), ?_⟩
  have a := mk_end h so.len
  have b := so.tot
  omega
theorem tell_some {W : Wr} {ns : List Nat} {st : Nat} {ts : List Str} (er : runW W ns = some (st, ts)) : tellW W ns = (W.ends.getD st none).map (mk ts) := by
  unfold tellW
  rw [er]
  show (match W.ends.getD st none with | none => none | some r => some (mk ts r)) = _
  cases W.ends.getD st none <;> rfl
theorem tell_none {W : Wr} {ns : List Nat} (er : runW W ns = none) : tellW W ns = none := by
  unfold tellW
  rw [er]

/-! ### the program's runs, from any situation -/
theorem fold_ok {k S B : Nat} {W : Wr} (h : WOk k S B W) : ∀ (l : List Nat) (o : Option (Nat × List Str)) (n : Nat), (∀ i ∈ l, i < k) → (∀ st ts, o = some (st, ts) → SOk S B n st ts) → ∀ st ts, l.foldl (stepW W) o = some (st, ts) → SOk S B (n + 10 * B * l.length) st ts := by
  intro l
  induction l with
  | nil => exact fun o n _ ho st ts e => ho st ts e
  | cons a r ih =>
    intro o n hl ho st ts e
    rw [List.foldl_cons] at e
    have q := ih (stepW W o a) (n + 10 * B) (fun i hi => hl i (List.mem_cons_of_mem _ hi)) ?_ st ts e
    · refine ⟨q.st, q.len, Nat.le_trans q.tot ?_, q.low⟩
      rw [List.length_cons, Nat.mul_succ]
      omega
    · intro st' ts' e'
      cases o with
      | none => cases e'
      | some x =>
        obtain ⟨s0, t0⟩ := x
        have s1 := ho s0 t0 rfl
        obtain ⟨row, en, _, _, h3, h4⟩ := ent_at h s1.st (hl a List.mem_cons_self)
        have e2 : stepW W (some (s0, t0)) a = goE t0 en := congrArg (goE t0) h3
        rw [e2] at e'
        cases en with
        | none => cases e'
        | some y =>
          obtain ⟨t, fs⟩ := y
          cases e'
          exact step_ok (kd := a) h s1 h4
def tellO (W : Wr) : Option (Nat × List Str) → Option Str
  | none => none
  | some (st, ts) => (W.ends.getD st none).map (mk ts)
theorem tell_O (W : Wr) (ns : List Nat) : tellW W ns = tellO W (runW W ns) := by
  cases er : runW W ns with
  | none => exact tell_none er
  | some o =>
    obtain ⟨st, ts⟩ := o
    exact tell_some er
def FromOk (H : Hp) (vs : List V) (W : Wr) (ns : List Nat) (st : Nat) (ts : List Str) : Prop := ∃ (a x t : V) (k S B n : Nat), vs = [a, x, t] ∧ Tp H a W.d ∧ Tp H x (sitD (some (st, ts))) ∧ Tp H t (wordD ns) ∧ WOk k S B W ∧ SOk S B n st ts ∧ n ≤ 100000 ∧ B ≤ 50 ∧ (∀ i ∈ ns, i < k) ∧ ns.length ≤ 1000
def spBehindF : Sp := fun vs H Q _ => ∃ (W : Wr) (ns : List Nat) (st : Nat) (ts : List Str), FromOk H vs W ns st ts ∧ ∀ (v : V) H', Same H H' → Tp H' v (sitD (ns.foldl (stepW W) (some (st, ts)))) → Q v H'
def spTellF : Sp := fun vs H Q _ => ∃ (W : Wr) (ns : List Nat) (st : Nat) (ts : List Str), FromOk H vs W ns st ts ∧ ∀ (v : V) H', Same H H' → Tp H' v (txtD (tellO W (ns.foldl (stepW W) (some (st, ts))))) → Q v H'
theorem sc_behind_from : FnScope ["writer", "situation", "word", "state", "texts", "kind", "entry", "fills"] ["writer", "situation", "word"] (fnScope st_behind_from_) := fnScope_by (by decide +kernel)
section
variable {P : Program} {w : World} {K : PySem.W.Frag} {mg : Str → Option Value} {base : Heap} {f : Addr} {fd : FuncData}
theorem cal_behind_from_ (F : C8.Def K mg "behind_from" st_behind_from_ f fd) (b : Binds K fd ["writer", "situation", "word"] []) (Cf : Cal P w K mg base 2 "_filled" spFilled []) : Cal P w K mg base 3 "behind_from" spBehindF [] := by
  refine cal0 F b .nil sc_behind_from (fun vs H Q E h => ?_) (fun cdv A outer s H vs Q E hr h => ?_)
  · obtain ⟨W, ns, st, ts, ⟨a, x, t, k, S, B, n, rfl, _⟩, _⟩ := h
    rfl
  · obtain ⟨W, ns, st0, ts0, ⟨a, x, t, kk, S, Bf, n0, rfl, ha, hx, ht, hW, hS0, hn0, h50, hns, hln⟩, k⟩ := h
    obtain ⟨a, xs, rfl, ha1, ha2⟩ := ha.tup_inv
    cases ha2 with
    | @cons vb x2 _ _ tb h2 =>
    cases h2 with
    | @cons vr x3 _ _ tr h3 =>
    obtain ⟨t, rfl, ht1⟩ := ht.word_inv
    obtain ⟨ra, rx, rfl, tr1, tr2⟩ := tr.tup_inv
    obtain ⟨sa, sx, rfl, sx1, sx2⟩ := hx.tup_inv
    cases sx2 with
    | @cons vst y1 _ _ u1 u2 =>
    cases u2 with
    | @cons vts y2 _ _ u3 u4 =>
    cases u4
    obtain rfl := u1.int_inv
    refine ⟨_, pss_cons (ps_asg (pv 1) (pg_tup rfl (pgs_cons (pg_name (i := 3) sc_behind_from.nd rfl (Or.inl rfl)) (pgs_cons (pg_name (i := 4) sc_behind_from.nd rfl (Or.inl rfl)) pgs_nil))))
      (pss_cons (ps_for PassesOwn.never rfl (pi_tup (pv 2)) (pg_name (i := 5) sc_behind_from.nd rfl (Or.inl rfl))
        (pss_cons (ps_set (i := 6) sc_behind_from.nd rfl (Or.inl rfl) (pe_ix ix_tup (pe_ix ix_tup (pe_ix ix_tup (pv 0) pe_int (fun _ _ => rfl)) (pv 3) (fun _ _ => rfl)) (pv 5) (fun _ _ => rfl)))
        (pss_cons (ps_if (pt_cmp (pc_isN (pv 6))) (pss_one (ps_ret pe_non)) pss_nil)
        (pss_cons (ps_asg (pv 6) (pg_tup rfl (pgs_cons (pg_name (i := 3) sc_behind_from.nd rfl (Or.inl rfl)) (pgs_cons (pg_name (i := 7) sc_behind_from.nd rfl (Or.inl rfl)) pgs_nil))))
        (pss_one (ps_set (i := 4) sc_behind_from.nd rfl (Or.inl rfl) (pe_c Cf hr (by decide) (by rfl) (pa_cons (pv 7) (pa_cons (pv 4) pa_nil)))))))))
      (pss_one (ps_ret (pe_tup (pa_cons (pv 3) (pa_cons (pv 4) pa_nil)))))), ?_⟩
    refine ⟨_, rfl, sa, _, rfl, SqT.of sx1, rfl, _, _, rfl, _, _, rfl, rfl, ?_⟩
    have bd : ∀ m : Nat, m ≤ 1000 → n0 + 10 * Bf * m ≤ 600000 := fun m hm => by
      have e2 : 10 * Bf * m ≤ 10 * 50 * 1000 := Nat.mul_le_mul (Nat.mul_le_mul_left 10 h50) hm
      omega
    refine ⟨_, rfl, t, rfl, ⟨_, SqT.of ht1⟩, for_tup (K := K) (a := t) (xs := (iN ns).map V.int) (fun i σ H' => Same H H' ∧ ∃ (st : Nat) (ts : List Str) (vt : V) (v6 v7 v8 : Option V), (ns.take i).foldl (stepW W) (some (st0, ts0)) = some (st, ts) ∧ Tp H' vt (.tuple (ts.map .str)) ∧
      σ = [some (.ref a), some (.ref sa), some (.ref t), some (.int st), some vt, v6, v7, v8]) ⟨Same.refl H, st0, ts0, vts, none, none, none, rfl, u3, rfl⟩ (fun i σ H' _ h => SqT.of (h.1 _ _ ht1)) ?_ ?_⟩
    · rintro i x σ H1 hi ⟨s1, st, ts, vt, v6, v7, v8, er, tvt, rfl⟩
      obtain ⟨kd, hkd, rfl⟩ : ∃ kd, ns[i]? = some kd ∧ x = V.int (kd : Nat) := by
        unfold iN at hi
        rw [List.map_map, List.getElem?_map] at hi
        cases e : ns[i]? with
        | none =>
          rw [e] at hi
          cases hi
        | some y =>
          rw [e] at hi
          exact ⟨y, rfl, (Option.some.inj hi).symm⟩
      have hk := hns kd (List.mem_of_getElem? hkd)
      have so := fold_ok hW (ns.take i) (some (st0, ts0)) n0 (fun j hj => hns j (List.mem_of_mem_take hj)) (fun st ts e => by cases e; exact hS0) st ts er
      obtain ⟨row, en, g1, g2, g3, g4⟩ := ent_at hW so.st hk
      obtain ⟨rv, w1, w2⟩ := tr2.at g1
      obtain ⟨rwa, rws, rfl, w3, w4⟩ := w2.tup_inv
      obtain ⟨ev, w5, w6⟩ := w4.at g2
      have step : (ns.take (i + 1)).foldl (stepW W) (some (st0, ts0)) = goE ts en := by
        rw [foldl_more (stepW W) _ hkd, er]
        exact congrArg (goE ts) g3
      refine ⟨_, rfl, a, _, _, _, rfl, rfl, SqT.of (s1 _ _ ha1), atI_nat (j := 1) rfl, _, rfl, ra, rx, _, _, rfl, rfl, SqT.of (s1 _ _ tr1), atI_nat w1, _, rfl, rwa, rws, _, _, rfl, rfl, SqT.of (s1 _ _ w3), atI_nat w5, ?_⟩
      refine ⟨_, rfl, _, rfl, ?_⟩
      cases en with
      | none =>
        obtain rfl := w6.non_inv
        refine iteT' (decide_eq_true rfl) ?_
        refine k _ _ s1 ?_
        have z : ns.foldl (stepW W) (some (st0, ts0)) = none := by
          have e2 : ns.foldl (stepW W) (some (st0, ts0)) = (ns.drop (i + 1)).foldl (stepW W) ((ns.take (i + 1)).foldl (stepW W) (some (st0, ts0))) := by
            rw [← List.foldl_append, List.take_append_drop]
          rw [e2, step]
          exact fold_none W _
        rw [z]
        exact .non
      | some y =>
        obtain ⟨tg, fs⟩ := y
        obtain ⟨ea, es, rfl, w7, w8⟩ := w6.tup_inv
        cases w8 with
        | @cons vtg x9 _ _ u1 u2 =>
        cases u2 with
        | @cons vfs x10 _ _ u3 u4 =>
        cases u4
        obtain rfl := u1.int_inv
        refine iteF' (decide_eq_false (fun z => by cases z)) ?_
        obtain ⟨g5, g6⟩ := g4 tg fs rfl
        refine ⟨_, rfl, ea, _, rfl, SqT.of (s1 _ _ w7), rfl, _, _, rfl, _, _, rfl, rfl, ?_⟩
        have bound : tot ts ≤ 900000 := by
          have e1 : (ns.take i).length ≤ 1000 := by rw [List.length_take]; omega
          have := so.tot
          have := bd _ e1
          omega
        refine ⟨_, rfl, _, rfl, vfs, vt, fs, ts, Bf, rfl, u3.mono (Same.tk s1), tvt, g6, so.len, h50, bound, fun v H2 s2 tv => ?_⟩
        exact ⟨Same.trans s1 s2, tg, fs.map (mk ts), v, _, _, _, step, tv, rfl⟩
    · rintro σ H1 ⟨s1, st, ts, vt, v6, v7, v8, er, tvt, rfl⟩
      have e : ((iN ns).map V.int).length = ns.length := by
        unfold iN
        rw [List.length_map, List.length_map]
      rw [e, List.take_length] at er
      refine ⟨_, rfl, _, rfl, (by show 2 ≤ sizeLine; decide), fun u hu => k _ _ (Same.trans s1 (same_new hu)) ?_⟩
      rw [er]
      exact .tup upd_same (.cons (.int st) (.cons (tvt.mono (tk_new hu)) .nil))
end

/-! ### the program's behind -/
theorem sc_behind_ : FnScope ["writer", "word"] ["writer", "word"] (fnScope st_behind_) := fnScope_by (by decide +kernel)
section
variable {P : Program} {w : World} {K : PySem.W.Frag} {mg : Str → Option Value} {base : Heap} {f : Addr} {fd : FuncData}
theorem cal_behind_ (F : C8.Def K mg "behind" st_behind_ f fd) (b : Binds K fd ["writer", "word"] []) (Cb : Cal P w K mg base 3 "behind_from" spBehindF []) : Cal P w K mg base 4 "behind" spBehind [] := by
  refine cal0 F b .nil sc_behind_ (fun vs H Q E h => ?_) (fun cdv A outer s H vs Q E hr h => ?_)
  · obtain ⟨a, t, W, ns, k, S, B, rfl, _⟩ := h
    rfl
  · obtain ⟨a, t, W, ns, kk, S, Bf, rfl, ha, ht, hW, hS, h50, hns, hln, k⟩ := h
    have ha0 := ha
    obtain ⟨a, xs, rfl, ha1, ha2⟩ := ha.tup_inv
    cases ha2 with
    | @cons vb x2 _ _ tb h2 =>
    refine ⟨_, pss_one (ps_ret (pe_c Cb hr (by decide) (by rfl) (pa_cons (pv 0) (pa_cons (pe_tup (pa_cons pe_int (pa_cons (pe_ix ix_tup (pv 0) pe_int (fun _ _ => rfl)) pa_nil))) (pa_cons (pv 1) pa_nil))))), ?_⟩
    refine ⟨_, rfl, _, rfl, a, _, _, _, rfl, rfl, SqT.of ha1, atI_nat (j := 0) rfl, (by show 2 ≤ sizeLine; decide), fun u hu => ⟨_, rfl, ?_⟩⟩
    have s0 := same_new (o := .tup [.int 0, vb]) hu
    exact ⟨W, ns, 0, W.begins, ⟨_, _, _, kk, S, Bf, 2 * Bf, rfl, ha0.mono (Same.tk s0), .tup upd_same (.cons (.int 0) (.cons (tb.mono (Same.tk s0)) .nil)), ht.mono (Same.tk s0), hW, begin_ok hW hS, by omega, h50, hns, hln⟩, fun v H' s1 tv => k v H' (Same.trans s0 s1) tv⟩
end

/-! ### all words, in their order -/
def nextW (k : Nat) (lv : List (List Nat)) : List (List Nat) := lv.flatMap fun w => (List.range k).map fun j => w ++ [j]
def levelW (k : Nat) : Nat → List (List Nat)
  | 0 => [[]]
  | i + 1 => nextW k (levelW k i)
def wordsW (k : Nat) : Nat → List (List Nat)
  | 0 => [[]]
  | m + 1 => wordsW k m ++ levelW k (m + 1)
theorem wordsW_le (k : Nat) {i m : Nat} (h : i ≤ m) : (wordsW k i).length ≤ (wordsW k m).length := by
  induction m with
  | zero =>
    have : i = 0 := by omega
    rw [this]
    exact Nat.le_refl _
  | succ m ih =>
    by_cases e : i = m + 1
    · rw [e]
      exact Nat.le_refl _
    · have := ih (by omega)
      show _ ≤ (wordsW k m ++ levelW k (m + 1)).length
      rw [List.length_append]
      omega
theorem levelW_le (k : Nat) {i m : Nat} (h : i ≤ m) : (levelW k i).length ≤ (wordsW k m).length := by
  refine Nat.le_trans ?_ (wordsW_le k h)
  cases i with
  | zero => exact Nat.le_refl _
  | succ i =>
    show _ ≤ (wordsW k i ++ levelW k (i + 1)).length
    rw [List.length_append]
    omega
theorem levelW_mem (k : Nat) : ∀ (i : Nat) (w : List Nat), w ∈ levelW k i → w.length = i ∧ ∀ x ∈ w, x < k
  | 0, w, h => by
    obtain rfl := List.mem_singleton.mp h
    exact ⟨rfl, fun x hx => by cases hx⟩
  | i + 1, w, h => by
    obtain ⟨u, h1, h2⟩ := List.mem_flatMap.mp h
    obtain ⟨j, h3, rfl⟩ := List.mem_map.mp h2
    obtain ⟨e1, e2⟩ := levelW_mem k i u h1
    refine ⟨by rw [List.length_append, e1]; rfl, fun x hx => ?_⟩
    rcases List.mem_append.mp hx with hx | hx
    · exact e2 x hx
    · obtain rfl := List.mem_singleton.mp hx
      exact List.mem_range.mp h3
theorem wordsW_mem (k : Nat) : ∀ (m : Nat) (w : List Nat), w ∈ wordsW k m → w.length ≤ m ∧ ∀ x ∈ w, x < k
  | 0, w, h => by
    obtain ⟨h1, h2⟩ := levelW_mem k 0 w h
    exact ⟨Nat.le_of_eq h1, h2⟩
  | m + 1, w, h => by
    rcases List.mem_append.mp (show w ∈ wordsW k m ++ levelW k (m + 1) from h) with h | h
    · obtain ⟨h1, h2⟩ := wordsW_mem k m w h
      exact ⟨Nat.le_succ_of_le h1, h2⟩
    · obtain ⟨h1, h2⟩ := levelW_mem k (m + 1) w h
      exact ⟨Nat.le_of_eq h1, h2⟩
theorem nextW_take (k : Nat) {lv : List (List Nat)} {i : Nat} {w : List Nat} (h : lv[i]? = some w) : nextW k (lv.take (i + 1)) = nextW k (lv.take i) ++ (List.range k).map fun j => w ++ [j] := by
  unfold nextW
  rw [List.take_add_one, h, List.flatMap_append]
  show _ ++ List.flatMap _ [w] = _
  rw [List.flatMap_cons, List.flatMap_nil, List.append_nil]
theorem nextW_take_le (k : Nat) (lv : List (List Nat)) (i : Nat) : (nextW k (lv.take i)).length ≤ (nextW k lv).length := by
  have e : nextW k lv = nextW k (lv.take i) ++ nextW k (lv.drop i) := by
    unfold nextW
    rw [← List.flatMap_append, List.take_append_drop]
  rw [e, List.length_append]
  omega
def spWords : Sp := fun vs H Q _ => ∃ k m : Nat, vs = [.int k, .int m] ∧ k ≤ 1000 ∧ m ≤ 1000 ∧ (wordsW k m).length ≤ 5000 ∧
  ∀ (a : Addr) H', Same H H' → H a = none → LAt H' a ((wordsW k m).map wordD) → Q (.ref a) H'
def nWords : List Str := ["count", "most", "level", "found", "lap", "longer", "word", "kind"]
theorem sc_words : FnScope nWords ["count", "most"] (fnScope st_law_words) := fnScope_by (by decide +kernel)
theorem LAt.look {H : Hp} {a : Addr} {ds : List PyData} (h : LAt H a ds) : ∃ vs, H a = some (.lst vs) ∧ TpAll H vs ds := h
section
variable {P : Program} {w : World} {K : PySem.W.Frag} {mg : Str → Option Value} {base : Heap} {f : Addr} {fd : FuncData}
theorem cal_words (F : C8.Def K mg "_law_words" st_law_words f fd) (b : Binds K fd ["count", "most"] []) (B : BN2 mg) : Cal P w K mg base 1 "_law_words" spWords [] := by
  refine cal0 F b .nil sc_words (fun vs H Q E h => ?_) (fun cdv A outer s H vs Q E hr h => ?_)
  · obtain ⟨k, m, rfl, _⟩ := h
    rfl
  · obtain ⟨kk, m, rfl, k1000, m1000, few, k⟩ := h
    refine ⟨_, pss_cons (ps_par (i := 2) (j := 3) rfl sc_words.nd rfl rfl (by decide) rfl rfl (pa_cons (pe_lst (pa_cons (pe_tup pa_nil) pa_nil)) (pa_cons (pe_lst (pa_cons (pe_tup pa_nil) pa_nil)) pa_nil)) (by rfl))
      (pss_cons (ps_for PassesOwn.never rfl (pi_range1 rfl B.range (pa_cons (pv 1) pa_nil)) (pg_name (i := 4) sc_words.nd rfl (Or.inl rfl))
        (pss_cons (ps_set (i := 5) sc_words.nd rfl (Or.inl rfl) (pe_lst pa_nil))
        (pss_cons (ps_for PassesOwn.never rfl (pi_list (pv 2)) (pg_name (i := 6) sc_words.nd rfl (Or.inr rfl))
          (pss_one (ps_set (i := 5) sc_words.nd rfl (Or.inl rfl) (pe_op op_cat (pv 5) (pe_lc (own := [("kind", 7)]) (g := gName 7) (tt := tYes) (by rfl) sc_words.nd (pi_range1 rfl B.range (pa_cons (pv 0) pa_nil))
            (blkOk_by (own := [("kind", 7)]) (N := nWords) (sc := fnScope st_law_words) (by decide +kernel)) (fun _ _ _ _ _ => pg_name (i := 7) sc_words.nd rfl (Or.inl rfl)) (fun _ _ _ _ _ => pts_nil)
            (fun _ _ _ _ _ => pe_op (op_catAK K) (pv 6) (pe_tup (pa_cons (pv 7) pa_nil))))))))
        (pss_cons (ps_set (i := 2) sc_words.nd rfl (Or.inl rfl) (pv 5))
        (pss_one (ps_set (i := 3) sc_words.nd rfl (Or.inl rfl) (pe_op op_cat (pv 3) (pv 2))))))))
      (pss_one (ps_ret (pv 3)))), ?_⟩
    refine ⟨Nat.zero_le _, fun e1 he1 => ⟨(by show 1 ≤ sizeLine; decide), fun l1 hl1 => ⟨Nat.zero_le _, fun e2 he2 => ⟨(by show 1 ≤ sizeLine; decide), fun l2 hl2 => ⟨_, _, rfl, ?_⟩⟩⟩⟩⟩
    have sA : Same H (upd (upd (upd (upd H e1 (.tup [])) l1 (.lst [.ref e1])) e2 (.tup [])) l2 (.lst [.ref e2])) := Same.trans (Same.trans (Same.trans (same_new he1) (same_new hl1)) (same_new he2)) (same_new hl2)
    have L1 : LAt (upd (upd (upd (upd H e1 (.tup [])) l1 (.lst [.ref e1])) e2 (.tup [])) l2 (.lst [.ref e2])) l1 ((levelW kk 0).map wordD) := by
      have z : LAt (upd (upd H e1 (.tup [])) l1 (.lst [.ref e1])) l1 ((levelW kk 0).map wordD) := ⟨_, upd_same, .cons (.tup (tk_new hl1 _ _ upd_same) .nil) .nil⟩
      exact (z.same (same_new he2)).same (same_new hl2)
    have L2' : LAt (upd (upd (upd (upd H e1 (.tup [])) l1 (.lst [.ref e1])) e2 (.tup [])) l2 (.lst [.ref e2])) l2 ((wordsW kk 0).map wordD) := ⟨_, upd_same, .cons (.tup (tk_new hl2 _ _ upd_same) .nil) .nil⟩
    have l20 : H l2 = none := (Same.trans (Same.trans (same_new he1) (same_new hl1)) (same_new he2)).free hl2
    generalize upd (upd (upd (upd H e1 (.tup [])) l1 (.lst [.ref e1])) e2 (.tup [])) l2 (.lst [.ref e2]) = H1 at sA L1 L2' ⊢
    clear hl2 he2 hl1 he1
    refine ⟨_, rfl, m, rfl, by omega, by omega, for_range (n := (m : Int).toNat) (fun i σ H' => (∃ (lv fo : Addr) (v4 v5 v6 : Option V), σ = [some (.int kk), some (.int m), some (.ref lv), some (.ref fo), v4, v5, v6, none] ∧ LAt H' lv ((levelW kk i).map wordD) ∧ H fo = none ∧ LAt H' fo ((wordsW kk i).map wordD)) ∧ Same H H')
      ⟨⟨l1, l2, _, _, _, rfl, L1, l20, L2'⟩, sA⟩ ?_ ?_⟩
    · rintro i σ H2 hi ⟨⟨lv, fo, v4, v5, v6, rfl, Ll, fo0, Lf⟩, s2⟩
      have him : i + 1 ≤ m := by omega
      obtain ⟨vs, hv, av⟩ := Ll
      refine ⟨Nat.zero_le _, fun q hq => ?_⟩
      have s3 := same_new (o := .lst []) hq
      refine ⟨_, rfl, lv, rfl, ⟨_, SqL.of (s3 _ _ hv)⟩, for_list (K := K) (a := lv) (xs := vs) (fun j σ H' => Same H2 H' ∧ ∃ (lo : Addr) (v6 : Option V), σ = [some (.int kk), some (.int m), some (.ref lv), some (.ref fo), some (.int (0 + (i : Int))), some (.ref lo), v6, none] ∧ H2 lo = none ∧ LAt H' lo ((nextW kk ((levelW kk i).take j)).map wordD))
        ⟨s3, q, v6, rfl, hq, [], upd_same, .nil⟩ (fun j σ H' _ h => SqL.of (h.1 _ _ hv)) ?_ ?_⟩
      · rintro j x σ H3 hj ⟨s4, lo, v6, rfl, lo0, Lo⟩
        have jlt : j < (levelW kk i).length := by
          have := (List.getElem?_eq_some_iff.mp hj).1
          rw [av.len, List.length_map] at this
          exact this
        obtain ⟨x', hx', tx⟩ := av.at (List.getElem?_eq_getElem jlt)
        rw [hj] at hx'
        cases hx'
        obtain ⟨wa, rfl, hwa⟩ := tx.word_inv
        obtain ⟨wl, _⟩ := levelW_mem kk i _ (List.getElem_mem jlt)
        generalize hw : (levelW kk i)[j] = wd at *
        obtain ⟨us, hu, au⟩ := Lo
        refine ⟨_, rfl, _, rfl, kk, rfl, by omega, by omega, fun D hD => ?_⟩
        refine lc_range (lo := 0) (n := (kk : Int).toNat) (fun g H' => Same H3 H' ∧ LAt H' D (((List.range g).map fun y => wd ++ [y]).map wordD)) ⟨same_new hD, [], upd_same, .nil⟩ ?_ ?_
        · rintro g H4 hg ⟨s5, zs, hz, az⟩
          have s45 := Same.trans s4 s5
          refine ⟨rfl, _, rfl, _, rfl, (by show 1 ≤ sizeLine; decide), fun u hu' => ?_⟩
          have wl' : ((iN wd).map V.int).length ≤ 1000 := by
            unfold iN
            rw [List.length_map, List.length_map, wl]
            omega
          have hz5 : upd H4 u (.tup [.int (0 + (g : Int))]) D = some (.lst zs) := by
            rw [upd_ne (ne_of_none hz hu')]
            exact hz
          have zlen : zs.length < sizeLine := by
            rw [az.len, List.length_map, List.length_map, List.length_range]
            exact Nat.lt_of_lt_of_le (show g < 1001 by omega) (by decide)
          have more : ((List.range (g + 1)).map fun y => wd ++ [y]).map wordD = ((List.range g).map fun y => wd ++ [y]).map wordD ++ [wordD (wd ++ [g])] := by
            rw [List.range_succ, List.map_append, List.map_append]
            rfl
          have e0 : (0 + (g : Int)) = (g : Int) := Int.zero_add _
          refine ⟨wa, u, _, _, rfl, rfl, SqT.of (same_new hu' _ _ (s45 _ _ hwa)), SqT.of upd_same, Nat.le_trans (Nat.add_le_add wl' (Nat.le_refl 1)) (by decide), fun en => ?_, fun _ en => absurd en (by simp), fun nn _ p hp => ?_⟩
          · refine ⟨zs, hz5, zlen, Same.put (Same.trans s5 (same_new hu')) hD, ?_⟩
            rw [more]
            refine LAt.push hz5 (az.mono (tk_new hu')) (tp_word ?_)
            rw [upd_same, iN_app, en, e0]
            rfl
          · have hz6 : upd (upd H4 u (.tup [.int (0 + (g : Int))])) p (.tup ((iN wd).map V.int ++ [.int (0 + (g : Int))])) D = some (.lst zs) := by
              rw [upd_ne (ne_of_none hz5 hp)]
              exact hz5
            refine ⟨zs, hz6, zlen, Same.put (Same.trans (Same.trans s5 (same_new hu')) (same_new hp)) hD, ?_⟩
            rw [more]
            refine LAt.push hz6 ((az.mono (tk_new hu')).mono (tk_new hp)) (tp_word ?_)
            rw [upd_same, iN_app, e0]
        · rintro H4 ⟨s5, zs, hz, az⟩
          have l1 : us.length ≤ 5000 := by
            rw [au.len, List.length_map]
            exact Nat.le_trans (nextW_take_le kk _ j) (Nat.le_trans (levelW_le kk (i := i + 1) him) few)
          have l2 : zs.length ≤ 1000 := by
            rw [az.len, List.length_map, List.length_map, List.length_range]
            omega
          refine ⟨lo, D, us, zs, rfl, rfl, s5 _ _ hu, hz, Nat.le_trans (Nat.add_le_add l1 l2) (by decide), fun p hp => ?_⟩
          refine ⟨Same.trans (Same.trans s4 s5) (same_new hp), p, _, rfl, (Same.trans s4 s5).free hp, us ++ zs, upd_same, ?_⟩
          have e : nextW kk ((levelW kk i).take (j + 1)) = nextW kk ((levelW kk i).take j) ++ (List.range kk).map fun y => wd ++ [y] := nextW_take kk (by rw [List.getElem?_eq_getElem jlt, hw])
          rw [e, List.map_append]
          exact (((au.mono (Same.tk s5)).app az)).mono (tk_new hp)
      · rintro σ H3 ⟨s4, lo, v6', rfl, lo0, Lo⟩
        have e : vs.length = (levelW kk i).length := by rw [av.len, List.length_map]
        rw [e, List.take_length] at Lo
        refine ⟨_, rfl, ?_⟩
        obtain ⟨us, hu, au⟩ := Lo
        obtain ⟨fs, hf, af⟩ := Lf.same s4
        have l1 : us.length ≤ 5000 := by
          rw [au.len, List.length_map]
          exact Nat.le_trans (levelW_le kk (i := i + 1) him) few
        have l2 : fs.length ≤ 5000 := by
          rw [af.len, List.length_map]
          exact Nat.le_trans (wordsW_le kk (i := i) (by omega)) few
        refine ⟨_, rfl, _, rfl, fo, lo, fs, us, rfl, rfl, hf, hu, Nat.le_trans (Nat.add_le_add l2 l1) (by decide), fun p hp => ?_⟩
        have s5 := Same.trans s2 s4
        refine ⟨⟨lo, p, _, _, _, rfl, LAt.same ⟨us, hu, au⟩ (same_new hp), s5.free hp, fs ++ us, upd_same, ?_⟩, Same.trans s5 (same_new hp)⟩
        show TpAll _ _ ((wordsW kk i ++ levelW kk (i + 1)).map wordD)
        rw [List.map_append]
        exact (af.app au).mono (tk_new hp)
    · rintro σ H2 ⟨⟨lv, fo, v4, v5, v6, rfl, Ll, fo0, Lf⟩, s2⟩
      exact ⟨_, rfl, k fo _ s2 fo0 Lf⟩
end

/-! ### () * k is () itself -/
section
open PySem.Spec PyProof.Rows
theorem mul_of_empty (l : Addr) (n : Nat) (dd : Option Addr) (sl : Array (Option Value)) (x : Int) (u : Tok) (small : (decide (x < -(2 ^ 63)) || decide (x ≥ 2 ^ 63)) = false) :
    Meets (Builtin.«tuple.__mul__» ⟨[.ref l, .int x u], []⟩) (fun _ R s => s.heap.get? l = some { cls := .type "tuple", dict := dd, data := .seq #[] n, slots := sl } ∧ R (.ok (.ret (Value.ref l))) s) :=
  .of_wp fun _ _ _ _ s h => by
    obtain ⟨heap, gs, dr, tk, os⟩ := s
    obtain ⟨look, fin⟩ := h
    have f1 := AutoSeq1.idx_int
    (wp_walk using wpAny_loadPart' look)
    repeat (first
      | (refine wpAny_ite_false (decide_eq_false (by rw [small]; exact Bool.false_ne_true)) ?_; (wp_walk using wpAny_loadPart' look))
      | (refine wpAny_ite_true (decide_eq_true rfl) ?_; (wp_walk using wpAny_loadPart' look)))
    exact ⟨_, rfl, fin⟩
def rRep0 (K : PySem.W.Frag) : R2 := fun x y H Q => ∃ (l : Addr) (k : Int), x = .ref l ∧ y = .int k ∧ SqT K H l [] ∧ 2 ≤ k ∧ k ≤ 1000 ∧ Q (.ref l) H
theorem op_rep0 {X : Cx} : OpR X (binaryOp .Mult) (rRep0 X.K) := by
  intro pins s σ H x y v u Q I rx ry given
  obtain ⟨l, k, rfl, rfl, hT, h1, h2, q⟩ := given
  cases rx
  obtain ⟨t, rfl⟩ := ry
  obtain ⟨_, r, ⟨⟨cl, dd, da, sl⟩, ho, hc, n, hd⟩, _⟩ := I.tuple hT
  cases r
  simp only at hc hd
  subst hc hd
  have small : (decide (k < -(2 ^ 63)) || decide (k ≥ 2 ^ 63)) = false := by
    rw [decide_eq_false (by omega), decide_eq_false (by omega), Bool.or_false]
  exact wpAny_binaryOp_repeat_ref (T := "tuple") (U := "int") (by decide) ⟨_, ho, rfl⟩ (fun s' => typeIs_int s' k t) noFill_tuple_mul F.fills_int_mul F.slot_int_rmul repeat_tuple F.slot_int_index.lookup
    (call_meets F.slot_int_rmul (typeIs_int s k t) F.entry_int_rmul (F.args_int_rmul_2 _ _) (int_rmul_tuple k t l #[] n dd sl)
      ⟨ho, rfl, ⟨_, ho, rfl⟩, call_meets F.slot_tuple_mul ⟨_, ho, rfl⟩ F.entry_tuple_mul (F.args_tuple_mul_2 _ _) (mul_of_empty l n dd sl k t small) ⟨ho, .ref l, H, I, rfl, q⟩⟩)
end
theorem rep_words (n : Nat) (ns : List Nat) : (List.replicate n ((iN ns).map V.int)).flatten = (iN (List.replicate n ns).flatten).map V.int := by
  induction n with
  | zero => rfl
  | succ n ih =>
    rw [List.replicate_succ, List.flatten_cons, ih, List.replicate_succ, List.flatten_cons]
    unfold iN
    rw [List.map_append, List.map_append]

/-! ### writers, situations, texts may be shown -/
theorem part_len {z : Str} : ∀ {r : Rc}, .s z ∈ r → z.length ≤ lets r
  | q :: r, h => by
    have e : lets (q :: r) = q.let + lets r := by
      unfold lets
      rw [List.map_cons, List.sum_cons]
    rw [e]
    rcases List.mem_cons.mp h with rfl | h
    · exact Nat.le_add_right _ _
    · have := part_len h
      omega
theorem flat_lt {fs : List Rc} {r : Rc} {n : Nat} (h : ∀ i ∈ fs.flatMap bufs, i < n) (hr : r ∈ fs) : ∀ i ∈ bufs r, i < n := fun i hi => h i (List.mem_flatMap.mpr ⟨r, hr, hi⟩)
theorem neat_rc {r : Rc} {n : Nat} (h : ROk r) (hb : ∀ i ∈ bufs r, i < n) (hn : n ≤ 1000) : Neat 1 205 r.d := by
  have e : NeatAll 0 (r.length * (40 + 1)) (r.map Pt.d) := neatAll_map fun q hq => by
    cases q with
    | s z =>
      have a := part_len hq
      have b := h.lt
      exact (neat_str (low_strOk (h.low _ hq))).le (Nat.le_refl _) (by omega)
    | b i =>
      have := hb i (List.mem_flatMap.mpr ⟨_, hq, List.mem_singleton.mpr rfl⟩)
      exact neat_int (by omega)
  have l := h.len
  exact (e.tup).le (Nat.le_refl _) (by omega)
theorem neat_rcE {r : Rc} {n : Nat} (h : ROkE r) (hb : ∀ i ∈ bufs r, i < n) (hn : n ≤ 1000) : Neat 1 246 r.d := by
  have e : NeatAll 0 (r.length * (40 + 1)) (r.map Pt.d) := neatAll_map fun q hq => by
    cases q with
    | s z =>
      have a := part_len hq
      have b := h.lt
      exact (neat_str (low_strOk (h.low _ hq))).le (Nat.le_refl _) (by omega)
    | b i =>
      have := hb i (List.mem_flatMap.mpr ⟨_, hq, List.mem_singleton.mpr rfl⟩)
      exact neat_int (by omega)
  have l := h.len
  exact (e.tup).le (Nat.le_refl _) (by omega)
theorem neat_ent {S B : Nat} {e : Option (Nat × List Rc)} (h : EntOk S B e) (hS : S ≤ 12) (hB : B ≤ 3) : Neat 3 700 (entD e) := by
  cases e with
  | none => exact neat_none.le (by decide) (by decide)
  | some x =>
    obtain ⟨t, fs⟩ := x
    obtain ⟨h1, h2⟩ := h t fs rfl
    have a : NeatAll 1 (fs.length * (205 + 1)) (fs.map Rc.d) := neatAll_map fun r hr => neat_rc (h2.each r hr) (flat_lt h2.lt hr) (by omega)
    have b : NeatAll 2 _ [.int (t : Int), fillsD fs] := NeatAll.cons ((neat_int (i := (t : Int)) (by omega)).le (by decide) (Nat.le_refl _)) (NeatAll.cons a.tup neatAll_nil)
    have l := h2.len
    exact b.tup.le (Nat.le_refl _) (by omega)
theorem neat_W {k S B : Nat} {W : Wr} (h : WOk k S B W) (hk : k ≤ 4) (hS : S ≤ 12) (hB : B ≤ 3) : Neat 6 40000 W.d := by
  have a : NeatAll 0 (W.begins.length * (2 + 1)) (W.begins.map .str) := neatAll_map fun z hz => (neat_str (low_strOk (h.b2 z hz).low)).le (Nat.le_refl _) (h.b2 z hz).len
  have b : NeatAll 4 (W.rules.length * (2804 + 1)) (W.rules.map rowD) := neatAll_map fun row hrow => by
    obtain ⟨r1, r2⟩ := h.r2 row hrow
    have c : NeatAll 3 (row.length * (700 + 1)) (row.map entD) := neatAll_map fun e he => neat_ent (r2 e he) hS hB
    exact c.tup.le (Nat.le_refl _) (by omega)
  have c : NeatAll 1 (W.ends.length * (246 + 1)) (W.ends.map endD) := neatAll_map fun e he => by
    cases e with
    | none => exact neat_none.le (by decide) (by decide)
    | some r =>
      have q := h.e2 _ he r rfl
      exact neat_rcE q.ok q.lt (by omega)
  have all : NeatAll 5 _ [.tuple (W.begins.map .str), .tuple (W.rules.map rowD), .tuple (W.ends.map endD)] :=
    NeatAll.cons (a.tup.le (by decide) (Nat.le_refl _)) (NeatAll.cons (b.tup.le (by decide) (Nat.le_refl _)) (NeatAll.cons (c.tup.le (by decide) (Nat.le_refl _)) neatAll_nil))
  have l1 := h.b1
  have l2 := h.r1
  have l3 := h.e1
  exact all.tup.le (Nat.le_refl _) (by omega)

/-! ### slices and sums of tuples as data; texts times a number; what may be a list or a tuple -/
theorem cut_take (xs : List V) (k : Nat) (h : k ≤ xs.length) : cutV xs none (some (k : Int)) = xs.take k := by
  unfold cutV
  rw [HT.sIx_none, HT.sIx_nat, List.drop_zero, Nat.sub_zero, Nat.min_eq_left h]
theorem cut_drop (xs : List V) (k : Nat) (h : k ≤ xs.length) : cutV xs (some (k : Int)) none = xs.drop k := by
  unfold cutV
  rw [HT.sIx_none, HT.sIx_nat, Nat.min_eq_left h]
  exact List.take_of_length_le (by rw [List.length_drop]; exact Nat.le_refl _)
theorem TpAll.take {H : Hp} : ∀ {vs : List V} {ds : List PyData} (k : Nat), TpAll H vs ds → TpAll H (vs.take k) (ds.take k)
  | _, _, 0, _ => .nil
  | _, _, _ + 1, .nil => .nil
  | _, _, k + 1, .cons h hs => .cons h (TpAll.take k hs)
theorem TpAll.drop {H : Hp} : ∀ {vs : List V} {ds : List PyData} (k : Nat), TpAll H vs ds → TpAll H (vs.drop k) (ds.drop k)
  | _, _, 0, h => h
  | _, _, _ + 1, .nil => .nil
  | _, _, k + 1, .cons _ hs => TpAll.drop k hs
/-- t[:k] -/
theorem sl_take {K : PySem.W.Frag} {H : Hp} {x : V} {ds : List PyData} {k : Nat} {Q : VK} (hx : Tp H x (.tuple ds)) (hk : k ≤ ds.length) (h : ∀ (v : V) H', Same H H' → Tp H' v (.tuple (ds.take k)) → Q v H') : rSlA K x none (some (k : Int)) H Q := by
  obtain ⟨a, xs, rfl, h1, h2⟩ := hx.tup_inv
  have hk' : k ≤ xs.length := by rw [h2.len]; exact hk
  refine ⟨a, xs, rfl, SqT.of h1, fun ⟨_, e⟩ => ?_, fun _ p hp => ?_⟩
  · rw [HT.sIx_nat, Nat.min_eq_left hk'] at e
    refine h _ _ (Same.refl H) (.tup h1 ?_)
    rw [List.take_of_length_le (by rw [← h2.len, e]; exact Nat.le_refl _)]
    exact h2
  · refine h _ _ (same_new hp) (.tup upd_same ?_)
    rw [cut_take xs k hk']
    exact (h2.take k).mono (tk_new hp)
/-- t[k:] -/
theorem sl_drop {K : PySem.W.Frag} {H : Hp} {x : V} {ds : List PyData} {k : Nat} {Q : VK} (hx : Tp H x (.tuple ds)) (hk : k ≤ ds.length) (h : ∀ (v : V) H', Same H H' → Tp H' v (.tuple (ds.drop k)) → Q v H') : rSlA K x (some (k : Int)) none H Q := by
  obtain ⟨a, xs, rfl, h1, h2⟩ := hx.tup_inv
  have hk' : k ≤ xs.length := by rw [h2.len]; exact hk
  refine ⟨a, xs, rfl, SqT.of h1, fun ⟨e, _⟩ => ?_, fun _ p hp => ?_⟩
  · rw [HT.sIx_nat, Nat.min_eq_left hk'] at e
    refine h _ _ (Same.refl H) (.tup h1 ?_)
    rw [e, List.drop_zero]
    exact h2
  · refine h _ _ (same_new hp) (.tup upd_same ?_)
    rw [cut_drop xs k hk']
    exact (h2.drop k).mono (tk_new hp)
/-- t + u -/
theorem cat_tp {K : PySem.W.Frag} {H : Hp} {x y : V} {ds es : List PyData} {Q : VK} (hx : Tp H x (.tuple ds)) (hy : Tp H y (.tuple es)) (n1 : ds.length ≤ 10000) (n2 : es.length ≤ 10000) (h : ∀ (v : V) H', Same H H' → Tp H' v (.tuple (ds ++ es)) → Q v H') : rCatA K x y H Q := by
  obtain ⟨a, xs, rfl, h1, h2⟩ := hx.tup_inv
  obtain ⟨b, ys, rfl, g1, g2⟩ := hy.tup_inv
  have e1 := h2.len
  have e2 := g2.len
  refine ⟨a, b, xs, ys, rfl, rfl, SqT.of h1, SqT.of g1, Nat.le_trans (show xs.length + ys.length ≤ 20000 by omega) (by decide), fun z => ?_, fun _ z => ?_, fun _ _ p hp => ?_⟩
  · subst z
    cases h2
    exact h _ _ (Same.refl H) (.tup g1 g2)
  · subst z
    cases g2
    refine h _ _ (Same.refl H) (.tup h1 ?_)
    rw [List.append_nil]
    exact h2
  · exact h _ _ (same_new hp) (.tup upd_same ((h2.app g2).mono (tk_new hp)))
theorem sl_tupAK {X : Cx} (K : PySem.W.Frag) (h : X.K = K := by rfl) : SlR X (rSlA K) := by
  rw [← h]
  exact sl_tupA
/-- one sign, so often -/
def rowOf (c : Nat) (n : Nat) : Str := ⟨(List.replicate n c).toArray⟩
theorem rowOf_len (c n : Nat) : (rowOf c n).length = n := by
  show (List.replicate n c).toArray.size = n
  rw [List.size_toArray, List.length_replicate]
theorem rowOf_low {c n : Nat} (h : 97 ≤ c ∧ c ≤ 122) : ∀ z ∈ (rowOf c n).cps.toList, 97 ≤ z ∧ z ≤ 122 := by
  intro z hz
  have hz' : z ∈ List.replicate n c := hz
  rw [List.eq_of_mem_replicate hz']
  exact h
theorem rep_sign (c : Nat) : ∀ (n : Nat) (acc : Array Nat), (List.replicate n #[c]).foldl (· ++ ·) acc = acc ++ (List.replicate n c).toArray
  | 0, acc => by
    show acc = acc ++ #[]
    rw [Array.append_empty]
  | n + 1, acc => by
    rw [List.replicate_succ, List.foldl_cons, rep_sign c n]
    refine Array.toList_inj.mp ?_
    rw [Array.toList_append, Array.toList_append, Array.toList_append, List.replicate_succ, List.append_assoc]
    rfl
def rMulS : R2 := fun x y H Q => ∃ (c : Nat) (n : Nat), x = .str ⟨#[c]⟩ ∧ y = .int n ∧ 2 ≤ n ∧ n ≤ 100000 ∧ Q (.str (rowOf c n)) H
section
open PySem.Spec PyProof.Rows
theorem op_mulS {X : Cx} : OpR X (binaryOp .Mult) rMulS := by
  intro pins s σ H x y v u Q I rx ry given
  obtain ⟨c, n, rfl, rfl, n2, big, q⟩ := given
  obtain ⟨t, rfl⟩ := rx
  obtain ⟨t2, rfl⟩ := ry
  have one : ((⟨#[c]⟩ : Str).length) = 1 := rfl
  refine PySem.P.mul_str ?_ (fun _ _ => ?_) (fun _ _ => ?_) ?_
  · rw [decide_eq_false (by omega), decide_eq_false (by omega)]
    rfl
  · rw [one]
    have h1 : (1 : Int) ≤ (2 ^ 63 - 1) / (n : Int) := (Int.le_ediv_iff_mul_le (by omega)).mpr (by omega)
    exact Int.not_lt.mpr h1
  · rw [one, Nat.one_mul, Int.toNat_natCast]
    unfold Builtin.Str.tooLong
    exact decide_eq_false (Nat.not_lt.mpr (Nat.le_trans big (by decide)))
  · have e1 : ¬ (n : Int) < 1 := by omega
    have e2 : ((n : Int) == 1 || (⟨#[c]⟩ : Str).length == 0) = false := by
      rw [one, Bool.or_eq_false_iff]
      exact ⟨beq_eq_false_iff_ne.mpr (by omega), rfl⟩
    rw [if_neg e1, if_neg (by rw [e2]; exact Bool.false_ne_true), Int.toNat_natCast]
    have e3 : (⟨(List.replicate n (⟨#[c]⟩ : Str).cps).foldl (· ++ ·) #[]⟩ : Str) = rowOf c n := by
      refine Str.ext' ?_
      show (List.replicate n #[c]).foldl (· ++ ·) #[] = (List.replicate n c).toArray
      rw [rep_sign, Array.empty_append]
    rw [e3]
    refine ⟨?_, .str _, H, I.tok _, ⟨_, rfl⟩, q⟩
    rw [rowOf_len]
    exact Nat.le_trans big (by decide)
/-- a walk over what is a list or a tuple -/
theorem pi_any {X : Cx} {tg l : Expr} {tl : TE} (h : PE X l tl) : PI X tg l (fun σ H R => iList X.K tl σ H R ∨ iTup X.K tl σ H R) :=
  ⟨fun pins s σ H R I q => q.elim (fun z => (pi_list (tg := tg) h).run pins s σ H R I z) (fun z => (pi_tup (tg := tg) h).run pins s σ H R I z)⟩
end
/-- a walk over a tuple, whatever is done with the items -/
theorem walk_tup {K : PySem.W.Frag} {a : Addr} {xs : List V} {body : V → Hp → (Hp → Prop) → Prop} {H0 : Hp} {Qd : Hp → Prop} (Pv : Nat → Hp → Prop) (h0 : Pv 0 H0) (hl : ∀ i H, i ≤ xs.length → Pv i H → SqT K H a xs)
    (hs : ∀ i x H, xs[i]? = some x → Pv i H → body x H (Pv (i + 1))) (hd : ∀ H, Pv xs.length H → Qd H) :
    ∃ W : Nat → Nat → Hp → Prop, (∃ m, W 0 m H0) ∧ ∀ i m H, W i m H → ((Itt K a).stop i H ∧ Qd H) ∨ ((Itt K a).go i H ∧ ∃ Nx : Hp → Prop, (∀ H', Nx H' → ∃ m', m' < m ∧ W (i + 1) m' H') ∧ ∀ x H', (Itt K a).yld i H x H' → body x H' Nx) := by
  refine ⟨fun i m H => m = xs.length - i ∧ i ≤ xs.length ∧ Pv i H, ⟨xs.length, rfl, Nat.zero_le _, h0⟩, fun i m H ⟨em, hi, p⟩ => ?_⟩
  have at_a := hl i H hi p
  rcases Nat.lt_or_eq_of_le hi with lt | eq
  · refine .inr ⟨⟨xs, xs[i], at_a, List.getElem?_eq_getElem lt⟩, Pv (i + 1), fun H' p' => ⟨xs.length - (i + 1), by omega, rfl, lt, p'⟩, fun x H' y => ?_⟩
    obtain ⟨e, y⟩ := y
    rw [e]
    exact hs i x H (y xs at_a) p
  · refine .inl ⟨⟨xs, at_a, Nat.le_of_eq eq.symm⟩, hd H ?_⟩
    rw [← eq]
    exact p

theorem pg_tupK {X : Cx} (K : PySem.W.Frag) {es : List Expr} {k : Nat} {t : TGs} {n : Nat} {pos : Pos} (hc : X.calm = true) (h : PGs X es t) (e : X.K = K := by rfl)
    (hn : (assignEach es X.env).length = n := by rfl) (hst : (assignEach es X.env).findIdx? (·.1) = none := by rfl) : PG X (.Tuple es k pos) (gTup K n t) := by
  rw [← e]
  exact pg_tup hc h hn hst

/-! ### for in a generator -/
namespace GF
open PySem PySem.Spec PyProof.Rows L2 GenW
section
variable {M : Model} {A : Around} {R : GenEnd} {Y : Protocol} {n : Nat} {s₀ : Shared} {c : Code} {fs : List Frame} {s : Shared} {env : Env}
  {K : Flow → Sem PySem.Fin} {J : Value → Sem PySem.Fin} {gd : Bool → Bool} {lv : List Value → List Value}
theorem seg_For {tg iter : Expr} {body orelse : List Stmt} {pos : Pos} (hs : ∀ x, foldedSetIterable iter env x = pure x)
    (h : wpAny M (A.over c fs) (eval iter env) (fun x s₁ => wpAny M (A.over c fs) (pyIter x) (fun it s₂ => ∀ p, Seg M A R Y n s₀ (.forLoop tg it body orelse env) (M.den (.forLoop tg it body orelse env))
      (.ret (fun r => ((match r with | .ok f => (.pure f : Sem Flow) | .error e => .raise e).onRaise (cameBack env)).wrap K J gd lv) none (gd false) (lv []) c p [] :: fs) s₂)
        (fun x s' => Seg M A R Y n s₀ c (J x) fs s') s₁) (fun x s' => Seg M A R Y n s₀ c (J x) fs s') s) :
    Seg M A R Y n s₀ c ((exec (.For tg iter body orelse pos) env).wrap K J gd lv) fs s := by
  rw [exec_For]
  refine seg_at ?_
  show Seg M A R Y n s₀ c (Sem.wrap K J gd lv (eval iter env >>= fun y => (foldedSetIterable iter env y >>= fun x => (standAt iter.pos >>= fun _ => (holding [x] (pyIter x) >>= fun it => runOwn (.forLoop tg it body orelse env) env))))) fs s
  rw [Sem.bind_eq_wrap', Sem.wrap_wrap]
  refine seg_wrap (wpAny_mono h (fun x s₁ h₁ => ?_) fun _ _ h' => h')
  rw [hs x]
  refine seg_at ?_
  show Seg M A R Y n s₀ c (Sem.wrap K J gd lv (holding [x] (pyIter x) >>= fun it => runOwn (.forLoop tg it body orelse env) env)) fs s₁
  rw [Sem.bind_eq_wrap', Sem.wrap_wrap]
  refine seg_wrap (wpAny_holding (wpAny_mono h₁ (fun it s₂ h₂ => ?_) fun _ _ h' => h'))
  exact seg_call h₂
end
section
variable {prog : Program} {w : World} {A : Around} {R : GenEnd} {Y : Protocol} {n : Nat} {s₀ : Shared} {fs : List Frame} {s : Shared} {env : Env}
theorem seg_forLoop {tg : Expr} {it : Value} {body orelse : List Stmt} {EH : Value → Sem PySem.Fin} (hE : EH = fun e => (do noteFrame e env; theTreesLotGoes e : Sem Unit).wrap (fun _ => .raise e) .raise id id)
    (h : wpAny (model prog w) (A.over (.forLoop tg it body orelse env) fs) (pyNext it) (fun r s₁ => match r with
      | none => Seg (model prog w) A R Y n s₀ (.forLoop tg it body orelse env) (.pure (.again (.block orelse env))) fs s₁
      | some v => wpAny (model prog w) (A.over (.forLoop tg it body orelse env) fs) (letOwnedTupleGo tg it v) (fun _ s₂ => wpAny (model prog w) (A.over (.forLoop tg it body orelse env) fs) (assign tg env v) (fun _ s₃ =>
          Seg (model prog w) A R Y n s₀ (.forLoop tg it body orelse env) ((execs body env).wrap (fun f => match f with
            | .next | .cont => .pure (.again (.forLoop tg it body orelse env))
            | .brk => .pure (.done .next)
            | .ret v => .pure (.done (.ret v))) EH id id) fs s₃)
          (fun x s' => Seg (model prog w) A R Y n s₀ (.forLoop tg it body orelse env) (EH x) fs s') s₂) (fun x s' => Seg (model prog w) A R Y n s₀ (.forLoop tg it body orelse env) (EH x) fs s') s₁)
      (fun x s' => Seg (model prog w) A R Y n s₀ (.forLoop tg it body orelse env) (EH x) fs s') s) :
    Seg (model prog w) A R Y n s₀ (.forLoop tg it body orelse env) ((model prog w).den (.forLoop tg it body orelse env)) fs s := by
  subst hE
  have ee : ∀ (x : Value) (s' : Shared), Seg (model prog w) A R Y n s₀ (.forLoop tg it body orelse env) ((do noteFrame x env; theTreesLotGoes x : Sem Unit).wrap (fun _ => .raise x) .raise id id) fs s' →
      Seg (model prog w) A R Y n s₀ (.forLoop tg it body orelse env) ((do noteFrame x env; theTreesLotGoes x : Sem Unit).bind fun _ => (.raise x : Sem PySem.Fin)) fs s' := fun x s' hx => by
    rw [Sem.bind_eq_wrap]
    exact hx
  show Seg _ A R Y n s₀ _ ((forTurn tg it body orelse env).onRaise (fun x => do noteFrame x env; theTreesLotGoes x)) fs s
  rw [Sem.onRaise_eq_wrap]
  unfold forTurn
  rw [Sem.bind_eq_wrap', Sem.wrap_wrap]
  refine seg_wrap (wpAny_standAt ?_)
  rw [Sem.bind_eq_wrap', Sem.wrap_wrap]
  refine seg_wrap (wpAny_onRaise (wpAny_mono h (fun r s₁ h₁ => ?_) fun x s' hx => wpAny_standAt ?_))
  · cases r with
    | none => exact h₁
    | some v =>
      show Seg _ A R Y n s₀ _ (Sem.wrap _ _ _ _ (letOwnedTupleGo tg it v >>= fun _ => (assign tg env v >>= fun _ => (execs body env >>= fun f => _)))) fs s₁
      rw [Sem.bind_eq_wrap', Sem.wrap_wrap]
      refine seg_wrap (wpAny_mono h₁ (fun _ s₂ h₂ => ?_) fun x s' hx => ee x s' hx)
      rw [Sem.bind_eq_wrap', Sem.wrap_wrap]
      refine seg_wrap (wpAny_mono h₂ (fun _ s₃ h₃ => ?_) fun x s' hx => ee x s' hx)
      rw [Sem.bind_eq_wrap', Sem.wrap_wrap]
      rw [Sem.wrap_congr (execs body env) _ _ (K' := fun f => match f with
            | .next | .cont => .pure (.again (.forLoop tg it body orelse env))
            | .brk => .pure (.done .next)
            | .ret v => .pure (.done (.ret v))) (H' := (fun e => (do noteFrame e env; theTreesLotGoes e : Sem Unit).wrap (fun _ => .raise e) .raise id id))
        (fun f => by cases f <;> rfl)
        (fun e => by first | exact Sem.bind_eq_wrap _ _ | (show (do noteFrame e env; theTreesLotGoes e : Sem Unit).bind (fun _ => .raise e) = _; rw [Sem.bind_eq_wrap]))]
      exact h₃
  · exact ee x s' hx
theorem seg_block {stmts : List Stmt}
    (h : Seg (model prog w) A R Y n s₀ (.block stmts env) ((execs stmts env).wrap (fun f => .pure (.done f)) (fun e => (do noteFrame e env; theTreesLotGoes e : Sem Unit).wrap (fun _ => .raise e) .raise id id) id id) fs s) :
    Seg (model prog w) A R Y n s₀ (.block stmts env) ((model prog w).den (.block stmts env)) fs s := by
  show Seg _ A R Y n s₀ _ (((execs stmts env).onRaise (fun x => do noteFrame x env; theTreesLotGoes x)) >>= fun f => (pure (Fin.done f) : Sem PySem.Fin)) fs s
  rw [Sem.onRaise_eq_wrap, Sem.bind_eq_wrap', Sem.wrap_wrap]
  rw [Sem.wrap_congr (execs stmts env) _ _ (K' := fun f => (.pure (.done f) : Sem PySem.Fin)) (H' := (fun e => (do noteFrame e env; theTreesLotGoes e : Sem Unit).wrap (fun _ => .raise e) .raise id id))
    (fun f => by rfl)
    (fun e => by rw [Sem.bind_eq_wrap, Sem.wrap_wrap]; rfl)]
  exact h
end

/-- W: the invariant by the turn, a measure and what is out; N: what the body is to reach -/
def tGFor (wi : TI) (g : TG) (tb : TGn) : TGn := fun D ys σ H => wi σ H fun J H1 => ∃ W : Nat → Nat → List V → L2.St → Hp → Prop, (∃ m, W 0 m ys σ H1) ∧ ∀ i m ys σ H, W i m ys σ H →
  (J.stop i H ∧ D.nx ys σ H) ∨ (J.go i H ∧ ∃ N : List V → L2.St → Hp → Prop, (∀ ys' σ' H', N ys' σ' H' → ∃ m', m' < m ∧ W (i + 1) m' ys' σ' H') ∧ ∀ x H', J.yld i H x H' → g x σ H' fun σ2 H2 => tb { D with nx := N, ct := N, bk := D.nx } ys σ2 H2)
section
variable {X : Cx} {tg : Expr}
theorem gs_for {iter : Expr} {body : List Stmt} {wi : TI} {g : TG} {tb : TGn} {pos : Pos} (hp : PassesOwn (model X.prog X.w) X.A X.env X.xe) (hc : X.calm = true) (hi : PI X tg iter wi) (hg : PG X tg g) (hb : GSs X body tb)
    (hs : ∀ x, foldedSetIterable iter X.env x = pure x := by intro _; rfl) : GS X (.For tg iter body [] pos) (tGFor wi g tb) := by
  refine ⟨fun A S ip R n ys s₀ c fs K J gd lv s σ H D gc hn k hI ht => ?_⟩
  obtain ⟨acc, cc, r, I⟩ := hI
  refine seg_For hs ?_
  rw [gc.over]
  refine wpAny_mono (hi.run _ s σ H _ I ht) (fun v s1 h1 => ?_) fun x s' hx => k.exc n s₀ x s' hx
  refine wpAny_mono h1 (fun itv s2 h2 p => ?_) fun x s' hx => k.exc n s₀ x s' hx
  obtain ⟨it, fp, tn, Jt, H2, e, I2, T, st2, f2, W, ⟨m0, w0⟩, turn⟩ := h2
  subst e
  have gl := fun (c' : Code) (hw : c'.weight = 0) (hu : c'.cUnits = 0) (kk : Result → Sem PySem.Fin) => gc_loop (k := kk) (c' := c') (l := lv []) (kp := []) (p := p) gc hw hu
  have fpS : ∀ b ∈ fp, S ≠ b := fun b hb => (f2 b hb).2.2.2.2.2 (S, lstObj acc cc) (List.mem_append_right _ List.mem_cons_self)
  have stat : ∀ {H' : Hp} {acc' : Array Value} {cc' : Nat}, (∀ b ∈ fp, H' b = none) → ∀ b ∈ fp, FpOk X ((S, lstObj acc' cc') :: ip) H' b := fun hn b hb => by
    obtain ⟨_, q1, q2, q3, q4, q5⟩ := f2 b hb
    refine ⟨hn b hb, q1, q2, q3, q4, fun p hp => ?_⟩
    rcases List.mem_append.mp hp with z | z
    · exact q5 p (List.mem_append_left _ z)
    · rcases List.mem_cons.mp z with z | z
      · rw [z]; exact fpS b hb
      · exact q5 p (List.mem_append_right _ (List.mem_cons_of_mem _ z))
  have loop : ∀ (m n : Nat) (ys : List V) (s₀ s : Shared) (σ : L2.St) (H : Hp) (i : Nat), n + ys.length = sizeLine → W i m ys σ H → GI X S ip ys σ H s → tn i s.heap → (∀ b ∈ fp, H b = none) →
      Seg (model X.prog X.w) A R (GY X S) n s₀ (.forLoop tg (.ref it) body [] X.env) ((model X.prog X.w).den (.forLoop tg (.ref it) body [] X.env))
        (.ret (fun r => ((match r with | .ok f => (.pure f : Sem Flow) | .error e => .raise e).onRaise (cameBack X.env)).wrap K J gd lv) none (gd false) (lv []) c p [] :: fs) s := by
    intro m
    induction m using Nat.strongRecOn with
    | ind m ih =>
      intro n ys s₀ s3 σ3 H3 i hn w hI st3 fr3
      have ee : ∀ (n : Nat) (s₀ : Shared) (x : Value) (s' : Shared), X.xe x s' → Seg (model X.prog X.w) A R (GY X S) n s₀ (.forLoop tg (.ref it) body [] X.env)
          ((do noteFrame x X.env; theTreesLotGoes x : Sem Unit).wrap (fun _ => .raise x) .raise id id)
          (.ret (fun r => ((match r with | .ok f => (.pure f : Sem Flow) | .error e => .raise e).onRaise (cameBack X.env)).wrap K J gd lv) none (gd false) (lv []) c p [] :: fs) s' := fun n s₀ x s' hx => by
        refine seg_wrap ?_
        rw [(gl (.forLoop tg (.ref it) body [] X.env) rfl rfl _).over]
        refine wpAny_bind (wpAny_mono (hp x s' hx) (fun _ s'' hcb => wpAny_theTreesLotGoes ?_) fun y s'' hcb => ?_)
        · exact seg_leaf (.error x) (seg_cameBack gc k hcb)
        · exact seg_leaf (.error y) (seg_cameBack gc k hcb)
      obtain ⟨acc3, cc3, r3, I3⟩ := hI
      refine seg_forLoop rfl ?_
      rw [(gl (.forLoop tg (.ref it) body [] X.env) rfl rfl _).over]
      rcases turn i m ys σ3 H3 w with ⟨stop, qn⟩ | ⟨go, N, hN, step⟩
      · refine wpAny_mono (T.done X rfl rfl rfl hc i _ s3 σ3 H3 X.xe I3 (stat fr3) st3 stop) (fun r s4 ⟨hr, I4⟩ => ?_) fun x s' hx => ee n s₀ x s' hx
        subst hr
        refine seg_again rfl (seg_block (seg_execs_nil ?_))
        exact seg_leaf (.ok .next) (k.ok n ys s₀ s4 .next hn ⟨σ3, H3, ⟨acc3, cc3, r3, I4⟩, qn⟩)
      · refine wpAny_mono (T.item X rfl rfl rfl hc i _ s3 σ3 H3 X.xe I3 (stat fr3) st3 go) (fun r s4 ⟨u, hr, h4⟩ => ?_) fun x s' hx => ee n s₀ x s' hx
        subst hr
        refine wpAny_mono h4 (fun _ s5 ⟨x, H5, I5, r5, y5, st5, fr5⟩ => ?_) fun x s' hx => ee n s₀ x s' hx
        have I5' : Inv X ((S, lstObj acc3 cc3) :: (ip ++ pinsAt fp s5.heap)) σ3 H5 s5 := I5.pinned (stat fr5) (T.obj _ _ st5)
        refine wpAny_mono (hg.run _ s5 σ3 H5 x u _ I5' r5 (step x H5 y5)) (fun _ s6 ⟨σ6, H6, I6, q6⟩ => ?_) fun x s' hx => ee n s₀ x s' hx
        have gl' := gl (.forLoop tg (.ref it) body [] X.env) rfl rfl (fun r => ((match r with | .ok f => (.pure f : Sem Flow) | .error e => .raise e).onRaise (cameBack X.env)).wrap K J gd lv)
        have drop : ∀ {ys7 : List V} {σ7 : L2.St} {H7 : Hp} {s7 : Shared}, GI X S (ip ++ pinsAt fp s5.heap) ys7 σ7 H7 s7 → GI X S ip ys7 σ7 H7 s7 := fun ⟨a7, c7, r7, I7⟩ => ⟨a7, c7, r7, Inv.unpinned (pins := (S, lstObj a7 c7) :: ip) I7⟩
        have again : ∀ {n7 : Nat} {ys7 : List V} {s₀7 : Shared} {σ7 : L2.St} {H7 : Hp} {s7 : Shared}, n7 + ys7.length = sizeLine → GI X S (ip ++ pinsAt fp s5.heap) ys7 σ7 H7 s7 → N ys7 σ7 H7 →
            Seg (model X.prog X.w) A R (GY X S) n7 s₀7 (.forLoop tg (.ref it) body [] X.env) (.pure (.again (.forLoop tg (.ref it) body [] X.env)))
              (.ret (fun r => ((match r with | .ok f => (.pure f : Sem Flow) | .error e => .raise e).onRaise (cameBack X.env)).wrap K J gd lv) none (gd false) (lv []) c p [] :: fs) s7 := fun {n7 ys7 s₀7 σ7 H7 s7} hn7 I7 n7' => by
          obtain ⟨m', hm, w7⟩ := hN ys7 σ7 H7 n7'
          have I7' := drop I7
          obtain ⟨a7, c7, r7, J7⟩ := I7
          refine seg_again rfl (ih m' hm n7 ys7 s₀7 s7 σ7 H7 (i + 1) hn7 w7 I7' ?_ fun b hb => ?_)
          · exact T.keep _ _ _ st5 fun b hb o e => (J7.pin (b, o) (List.mem_append_right _ (List.mem_cons_of_mem _ (List.mem_append_right _ (mem_pinsAt hb e))))).1
          · obtain ⟨o, e, d⟩ := T.obj _ _ st5 b hb
            exact (J7.pin (b, o) (List.mem_append_right _ (List.mem_cons_of_mem _ (List.mem_append_right _ (mem_pinsAt hb e))))).2.1
        refine hb.run A S (ip ++ pinsAt fp s5.heap) R n ys s₀ _ _ _ _ id id s6 σ6 H6 { D with nx := N, ct := N, bk := D.nx } ⟨gc.pn, fun p hp => ?_, gc.apart, gl'.over, gl'.split, gl'.guard, rfl⟩ hn ⟨fun n' ys' s₀' s7 f hn' hs => ?_, fun n' s₀' x s7 hx => ee n' s₀' x s7 hx⟩ ⟨acc3, cc3, r3, I6⟩ q6
        · rcases List.mem_append.mp hp with z | z
          · exact gc.ip p z
          · obtain ⟨hb', _⟩ := of_pinsAt z
            exact Ne.symm (fpS p.1 hb')
        · cases f with
          | next =>
            obtain ⟨σ7, H7, I7, n7⟩ := hs
            exact again hn' I7 n7
          | cont =>
            obtain ⟨σ7, H7, I7, n7⟩ := hs
            exact again hn' I7 n7
          | brk =>
            obtain ⟨σ7, H7, I7, q7⟩ := hs
            exact seg_leaf (.ok .next) (k.ok n' ys' s₀' s7 .next hn' ⟨σ7, H7, drop I7, q7⟩)
          | ret v =>
            obtain ⟨v7, σ7, H7, I7, rv7, q7⟩ := hs
            exact seg_leaf (.ok (.ret v)) (k.ok n' ys' s₀' s7 (.ret v) hn' ⟨v7, σ7, H7, drop I7, rv7, q7⟩)
  exact loop m0 n ys s₀ s2 σ H2 0 hn w0 ⟨acc, cc, r, I2⟩ st2 fun b hb => (f2 b hb).1
end
end GF

/-! ### t[::-1] -/
namespace RT
open PySem PyProof.Rows HT
section
variable {prog : Program} {w : World} {A : Around} {E : Value → Shared → Prop} {s : Shared}
theorem fm_congr {α β : Type} {f g : α → Option β} : ∀ {l : List α}, (∀ x ∈ l, f x = g x) → l.filterMap f = l.filterMap g
  | [], _ => rfl
  | x :: r, h => by rw [List.filterMap_cons, List.filterMap_cons, h x List.mem_cons_self, fm_congr fun y hy => h y (List.mem_cons_of_mem _ hy)]
theorem adjust_rev (n : Nat) : Builtin.Slice.sliceAdjust none none (-1) (n : Int) = ((n : Int) - 1, -1) := by
  unfold Builtin.Slice.sliceAdjust
  have h1 : (-1 : Int) < 0 := by decide
  simp only [h1, if_true]
theorem places_rev (n : Nat) : Builtin.Slice.slicePlaces ((n : Int) - 1) (-1) (-1) = n := by
  unfold Builtin.Slice.slicePlaces
  have h1 : ¬ ((-1 : Int) > 0) := by decide
  simp only [h1, if_false]
  have e : (n : Int) - 1 - (-1) - 1 = (n : Int) - 1 := by omega
  have e2 : (- (-1 : Int)) = 1 := rfl
  rw [e, e2, Int.ediv_one]
  split <;> omega
theorem pick_rev (xs : Array Value) : ((List.range xs.size).filterMap fun (m : Nat) => xs[((xs.size : Int) - 1 + (m : Int) * (-1)).toNat]?).toArray = xs.toList.reverse.toArray := by
  have e : (List.range xs.size).filterMap (fun (m : Nat) => xs[((xs.size : Int) - 1 + (m : Int) * (-1)).toNat]?) = ((List.range xs.size).map fun k => xs.size - 1 - k).filterMap (xs[·]?) := by
    rw [List.filterMap_map]
    refine fm_congr fun m hm => ?_
    have := List.mem_range.mp hm
    show xs[((xs.size : Int) - 1 + (m : Int) * (-1)).toNat]? = xs[xs.size - 1 - m]?
    have e : ((xs.size : Int) - 1 + (m : Int) * (-1)).toNat = xs.size - 1 - m := by omega
    rw [e]
  rw [e, PySem.W.krv_range, List.filterMap_reverse, PySem.W.krv_all]
theorem sliceApplied_rev {sl : Addr} {vk : Value} {n : Nat} {Q : Int × Int × Nat → Shared → Prop} (hs : s.heap.IsSliceOf sl .none .none vk) (pk : IsPart vk (some (-1)))
    (h : Q ((n : Int) - 1, -1, n) s) : wpAny (model prog w) A (Builtin.Slice.sliceApplied (.ref sl) (pure (n : Int))) Q E s := by
  obtain ⟨os, hos, hcs, hds⟩ := id hs
  unfold Builtin.Slice.sliceApplied Builtin.Slice.sliceFields
  refine wpAny_bind (wpAny_bind (wpAny_field hos hds (x := .none) rfl (wpAny_bind (wpAny_field hos hds (x := .none) rfl (wpAny_bind (wpAny_field hos hds (x := vk) rfl (wpAny_pure ?_)))))))
  refine wpAny_bind (slicePart_ pk ?_)
  show wpAny _ _ (if ((-1 : Int) == 0) = true then _ else _) _ _ s
  rw [if_neg (by decide)]
  refine wpAny_bind (slicePart_ .none (wpAny_bind (slicePart_ .none (wpAny_bind (wpAny_pure ?_)))))
  show wpAny _ _ (match Builtin.Slice.sliceAdjust none none (-1) (n : Int) with | (lo, hi) => pure (lo, (-1 : Int), Builtin.Slice.slicePlaces lo hi (-1))) _ _ s
  rw [adjust_rev n]
  show wpAny _ _ (pure ((n : Int) - 1, (-1 : Int), Builtin.Slice.slicePlaces ((n : Int) - 1) (-1) (-1))) _ _ s
  rw [places_rev]
  exact wpAny_pure h
theorem getItem_tuple_rev {t sl : Addr} {items : Array Value} {vk : Value} {Q : Value → Shared → Prop} (ht : IsTup s.heap t items) (hs : s.heap.IsSliceOf sl .none .none vk) (pk : IsPart vk (some (-1)))
    (h : Q (.ref s.heap.objs.size) { s with heap := s.heap.push { cls := .type "tuple", data := .seq items.toList.reverse.toArray } })
    (hsz : items.size ≤ sizeLine) : wpAny (model prog w) A (getItem (.ref t) (.ref sl)) Q E s := by
  have htake : sizeOk (.seq items.toList.reverse.toArray) := by
    show items.toList.reverse.toArray.size ≤ sizeLine
    rw [List.size_toArray, List.length_reverse, Array.length_toList]
    exact hsz
  obtain ⟨os, hos, hcs, hds⟩ := id hs
  have hTs : s.TypeIs (.ref sl) "slice" := ⟨os, hos, hcs⟩
  unfold getItem
  try with_reducible refine wpAny_holding ?_
  first | refine wpAny_bind (wpAny_pure ?_) | skip
  refine wpAny_bind (wpAny_sequenceKey ht.typeIs (by decide) ?_)
  refine wpAny_bind (wpAny_callSpecial?_slot (name := Str.ofString "__getitem__") ht.typeIs PyProof.Rows.slot_tuple_getitem
    (wpAny_call_entry PyProof.Rows.slot_tuple_getitem ht.typeIs entry_tuple_getitem ?_ (args_tuple_getitem _ _)))
  show wpAny _ _ (Builtin.Tuple.tupleItemsOf (.ref t) >>= _) _ _ s
  refine wpAny_bind (tupleItemsOf_ ht ?_)
  refine wpAny_bind (wpAny_typeOf hTs ?_)
  rw [if_pos (by decide)]
  refine wpAny_bind (sliceApplied_rev hs pk ?_)
  have hno : ¬ ((((items.size : Int) - 1) == 0 && (-1 : Int) == 1 && items.size == items.size) = true) := by
    intro q
    rw [Bool.and_eq_true, Bool.and_eq_true] at q
    have q1 : (-1 : Int) = 1 := eq_of_beq q.1.2
    omega
  show wpAny _ _ (if (((items.size : Int) - 1) == 0 && (-1 : Int) == 1 && items.size == items.size) = true then _ else _) _ _ s
  rw [if_neg hno, pick_rev]
  first
    | exact wpAny_bind (m := Builtin.Tuple.tupleExact _) (wpAny_newObj_type (wpAny_pure ⟨_, rfl, wpAny_pure h⟩) htake)
    | exact wpAny_bind (m := Builtin.Tuple.tupleExact _) (wpAny_newObj_type (wpAny_bind (wpAny_pure (wpAny_pure ⟨_, rfl, wpAny_pure h⟩))) htake)
    | exact wpAny_bind (wpAny_bind (m := Builtin.Tuple.tupleExact _) (wpAny_newObj_type (wpAny_pure (wpAny_pure ⟨_, rfl, wpAny_pure h⟩)) htake))
    | exact wpAny_bind (wpAny_bind (m := Builtin.Tuple.tupleExact _) (wpAny_newObj_type (wpAny_pure ⟨_, rfl, wpAny_pure h⟩) htake))
end
end RT
section
open PySem.Spec PyProof.Rows
variable {X : Cx}
def tRevT (K : PySem.W.Frag) (te : TE) : TE := fun σ H Q => te σ H fun x H1 => ∃ a xs, x = .ref a ∧ SqT K H1 a xs ∧ ∀ p, H1 p = none → Q (.ref p) (upd H1 p (.tup xs.reverse))
theorem pe_revT {e : Expr} {te : TE} {k : Nat} {p1 p2 p3 pos : Pos} (he : PE X e te) : PE X (.Subscript e (.Slice none none (some (.UnaryOp .USub (.Constant (.int 1) k p1) p2)) p3) pos) (tRevT X.K te) := by
  refine ⟨fun pins s σ H Q I h => ?_⟩
  refine Subscript_ (thn (he.run pins s σ H _ I h) fun v s1 ⟨x, H1, I1, r1, q1⟩ => ?_)
  obtain ⟨a, xs, ex, hx, q⟩ := q1
  subst ex
  cases r1
  have hst : PO X (some (.UnaryOp .USub (.Constant (.int 1) k p1) p2)) (tPart (tUn (rU fun i => .int (-i)) (tC (.int 1)))) := po_some (pe_un un_neg pe_int)
  refine wpAny_Slice (thn (po_none.run pins s1 σ H1 (fun o H2 => o = none ∧ H2 = H1) I1 ⟨rfl, rfl⟩) fun vl s2 ⟨l, H2, I2, pl, el, e2⟩ => ?_)
  subst el e2
  refine thn (po_none.run pins s2 σ H2 (fun o H3 => o = none ∧ H3 = H2) I2 ⟨rfl, rfl⟩) fun vu s3 ⟨u, H3, I3, pu, eu, e3⟩ => ?_
  subst eu e3
  refine thn (hst.run pins s3 σ H3 (fun o H4 => o = some (-1) ∧ H4 = H3) I3 ⟨1, rfl, -1, rfl, rfl, rfl⟩) fun vs s4 ⟨o, H4, I4, ps, eo, e4⟩ => ?_
  subst eo e4
  cases pl
  cases pu
  have I5 : Inv X pins σ H4 { s4 with heap := s4.heap.push { cls := .type "slice", data := .fields #[.none, .none, vs] } } := I4.kept (t' := s4.toks) fun b ob q => Heap.get?_push_of_some _ q
  obtain ⟨its, r, ht, hz⟩ := I5.tuple hx
  have hlen := r.length
  show wpAny (model X.prog X.w) X.A (subscriptTail e (.Slice none none (some (.UnaryOp .USub (.Constant (.int 1) k p1) p2)) p3) (.ref a) (.ref s4.heap.objs.size)) (EP X pins σ Q) X.xe { s4 with heap := s4.heap.push { cls := .type "slice", data := .fields #[.none, .none, vs] } }
  refine tail_any (ops := [.ref a, .ref s4.heap.objs.size]) (T := "tuple") ht.typeIs PyProof.Rows.slot_tuple_getitem.lookup ?_ (by with_unfolding_all rfl)
  refine RT.getItem_tuple_rev ht (Heap.IsSliceOf.new _ .none .none vs) ps ?_ (by rw [List.size_toArray]; omega)
  refine ⟨.ref _, _, I5.laid (t' := s4.toks) (o := .tup xs.reverse) (fun b ob q => Heap.get?_push_of_some _ q) (Nat.le_refl _) ?_, rfl, q _ (I5.hok.fresh (Nat.le_refl _))⟩
  exact ⟨by rw [List.length_reverse]; exact hz, _, r.reverse, IsTup.new _ _⟩
end

theorem Tp.w_inv {H : Hp} {v : V} {W : Wr} (h : Tp H v W.d) : ∃ (a : Addr) (vb vr ve : V), v = .ref a ∧ H a = some (.tup [vb, vr, ve]) ∧ Tp H vb (.tuple (W.begins.map .str)) ∧ Tp H vr (.tuple (W.rules.map rowD)) ∧ Tp H ve (.tuple (W.ends.map endD)) := by
  obtain ⟨a, xs, rfl, h1, h2⟩ := h.tup_inv
  cases h2 with
  | @cons vb x2 _ _ tb h2 =>
  cases h2 with
  | @cons vr x3 _ _ tr h3 =>
  cases h3 with
  | @cons ve x4 _ _ te h4 =>
  cases h4
  exact ⟨a, vb, vr, ve, rfl, h1, tb, tr, te⟩

/-! ### the same writer, its buffers exchanged -/
def renP (l : List Nat) : Pt → Pt
  | .s z => .s z
  | .b i => .b (l.getD i 0)
def renR (l : List Nat) (r : Rc) : Rc := r.map (renP l)
def exE (l : List Nat) (e : Option (Nat × List Rc)) : Option (Nat × List Rc) := e.map fun x => (x.1, (x.2.map (renR l)).reverse)
def exN (l : List Nat) (e : Option Rc) : Option Rc := e.map (renR l)
def namesX (W : Wr) : List Nat := (List.range W.begins.length).reverse
def exW (W : Wr) : Wr := ⟨W.begins.reverse, W.rules.map fun row => row.map (exE (namesX W)), W.ends.map (exN (namesX W))⟩
theorem names_at {n i : Nat} (h : i < n) : (List.range n).reverse.getD i 0 = n - 1 - i := by
  rw [List.getD_eq_getElem?_getD, List.getElem?_reverse (by rw [List.length_range]; exact h), List.length_range, List.getElem?_range (by omega)]
  rfl
theorem bufs_ren (l : List Nat) : ∀ r : Rc, bufs (renR l r) = (bufs r).map fun i => l.getD i 0
  | [] => rfl
  | .s z :: r => bufs_ren l r
  | .b i :: r => by
    show l.getD i 0 :: bufs (renR l r) = l.getD i 0 :: (bufs r).map _
    rw [bufs_ren l r]
theorem rok_ren {l : List Nat} {r : Rc} (h : ROk r) : ROk (renR l r) := by
  refine ⟨?_, fun q hq => ?_, by show (r.map (renP l)).length ≤ 5; rw [List.length_map]; exact h.len⟩
  · have e : lets (renR l r) = lets r := by
      unfold lets renR
      rw [List.map_map]
      congr 1
      refine List.map_congr_left fun q _ => ?_
      cases q <;> rfl
    rw [e]
    exact h.lt
  · obtain ⟨y, hy, rfl⟩ := List.mem_map.mp hq
    cases y with
    | s z => exact h.low _ hy
    | b i => trivial
theorem rokE_ren {l : List Nat} {r : Rc} (h : ROkE r) : ROkE (renR l r) := by
  refine ⟨?_, fun q hq => ?_, by show (r.map (renP l)).length ≤ 6; rw [List.length_map]; exact h.len⟩
  · have e : lets (renR l r) = lets r := by
      unfold lets renR
      rw [List.map_map]
      congr 1
      refine List.map_congr_left fun q _ => ?_
      cases q <;> rfl
    rw [e]
    exact h.lt
  · obtain ⟨y, hy, rfl⟩ := List.mem_map.mp hq
    cases y with
    | s z => exact h.low _ hy
    | b i => trivial
theorem eok_ren {B : Nat} {r : Rc} (h : EOk B r) : EOk B (renR (List.range B).reverse r) := by
  refine ⟨?_, fun i hi => ?_, rokE_ren h.ok⟩
  · rw [bufs_ren]
    refine List.pairwise_map.mpr (List.Pairwise.imp_of_mem (fun {a b} ha hb ne => ?_) h.nd)
    have h1 := h.lt a ha
    have h2 := h.lt b hb
    rw [names_at h1, names_at h2]
    omega
  · rw [bufs_ren] at hi
    obtain ⟨j, hj, rfl⟩ := List.mem_map.mp hi
    have h1 := h.lt j hj
    rw [names_at h1]
    omega
theorem bufs_fills (l : List Nat) : ∀ fs : List Rc, (fs.map (renR l)).flatMap bufs = (fs.flatMap bufs).map fun i => l.getD i 0
  | [] => rfl
  | r :: fs => by rw [List.map_cons, List.flatMap_cons, List.flatMap_cons, List.map_append, bufs_ren, bufs_fills l fs]
theorem fok_ex {B : Nat} {fs : List Rc} (h : FOk B fs) : FOk B ((fs.map (renR (List.range B).reverse)).reverse) := by
  have pm : (((fs.map (renR (List.range B).reverse)).reverse).flatMap bufs).Perm ((fs.flatMap bufs).map fun i => (List.range B).reverse.getD i 0) := by
    rw [← bufs_fills]
    exact (List.reverse_perm _).flatMap_right _
  refine ⟨by rw [List.length_reverse, List.length_map]; exact h.len, pm.nodup_iff.mpr ?_, fun i hi => ?_, fun r hr => ?_⟩
  · refine List.pairwise_map.mpr (List.Pairwise.imp_of_mem (fun {a b} ha hb ne => ?_) h.nd)
    have h1 := h.lt a ha
    have h2 := h.lt b hb
    rw [names_at h1, names_at h2]
    omega
  · obtain ⟨j, hj, rfl⟩ := List.mem_map.mp (pm.mem_iff.mp hi)
    have h1 := h.lt j hj
    rw [names_at h1]
    omega
  · obtain ⟨y, hy, rfl⟩ := List.mem_map.mp (List.mem_reverse.mp hr)
    exact rok_ren (h.each y hy)
theorem tight_ex {W : Wr} (h : Tight W) : Tight (exW W) := by
  intro e he q hq
  obtain ⟨e0, g0, rfl⟩ := List.mem_map.mp he
  cases e0 with
  | none => cases hq
  | some r =>
    obtain rfl := Option.some.inj hq
    exact rok_ren (h _ g0 r rfl)
theorem wok_ex {k S B : Nat} {W : Wr} (h : WOk k S B W) : WOk k S B (exW W) := by
  have en : namesX W = (List.range B).reverse := by
    unfold namesX
    rw [h.b1]
  refine ⟨by show W.begins.reverse.length = B; rw [List.length_reverse]; exact h.b1, fun z hz => h.b2 z (List.mem_reverse.mp hz), by show (W.rules.map _).length = S; rw [List.length_map]; exact h.r1, fun row hrow => ?_, by show (W.ends.map _).length = S; rw [List.length_map]; exact h.e1, fun e he q hq => ?_⟩
  · obtain ⟨r0, h0, rfl⟩ := List.mem_map.mp hrow
    obtain ⟨h1, h2⟩ := h.r2 r0 h0
    refine ⟨by rw [List.length_map]; exact h1, fun e he => ?_⟩
    obtain ⟨e0, g0, rfl⟩ := List.mem_map.mp he
    intro t fs q
    cases e0 with
    | none => cases q
    | some x =>
      obtain ⟨t0, f0⟩ := x
      obtain ⟨a1, a2⟩ := h2 _ g0 t0 f0 rfl
      cases q
      rw [en]
      exact ⟨a1, fok_ex a2⟩
  · obtain ⟨e0, g0, rfl⟩ := List.mem_map.mp he
    cases e0 with
    | none => cases hq
    | some r =>
      cases hq
      rw [en]
      exact eok_ren (h.e2 _ g0 r rfl)
def spRenamed : Sp := fun vs H Q _ => ∃ (x : V) (n : Addr) (r : Rc) (l : List Nat), vs = [x, .ref n] ∧ Tp H x r.d ∧ H n = some (.lst ((iN l).map V.int)) ∧ (∀ i ∈ bufs r, i < l.length) ∧ r.length ≤ 1000 ∧
  ∀ (t : Addr) H', Same H H' → H' t = some (.tup ((renR l r).map Pt.v)) → Q (.ref t) H'
theorem sc_renamed : FnScope ["recipe", "names", "part"] ["recipe", "names"] (fnScope st_law_renamed) := fnScope_by (by decide +kernel)
section
variable {P : Program} {w : World} {K : PySem.W.Frag} {mg : Str → Option Value} {base : Heap} {f : Addr} {fd : FuncData}
theorem cal_renamed (F : C8.Def K mg "_law_renamed" st_law_renamed f fd) (b : Binds K fd ["recipe", "names"] []) (B : BN2 mg) : Cal P w K mg base 1 "_law_renamed" spRenamed [] := by
  refine cal0 F b .nil sc_renamed (fun vs H Q E h => ?_) (fun cdv A outer s H vs Q E hr h => ?_)
  · obtain ⟨x, n, r, l, rfl, _⟩ := h
    rfl
  · obtain ⟨x, n, r, l, rfl, ha, hn, hb, hl, k⟩ := h
    obtain ⟨a, xs, rfl, ha1, ha2⟩ := ha.tup_inv
    obtain rfl := tpAll_parts ha2
    refine ⟨_, pss_one (ps_ret (pe_callTy call_tuple_of (by rfl) B.tuple (by decide +kernel) (pa_cons (pe_lc (own := [("part", 2)]) (g := gName 2) (tt := tYes) (by rfl) sc_renamed.nd (pi_tup (pv 0)) (blkOk_by (own := [("part", 2)]) (N := ["recipe", "names", "part"]) (sc := fnScope st_law_renamed) (by decide +kernel))
      (fun _ _ _ _ _ => pg_name (i := 2) sc_renamed.nd rfl (Or.inl rfl)) (fun _ _ _ _ _ => pts_nil)
      (fun _ _ _ _ _ => pe_ifExp (pt_val (pe_callB (isiK K) (by rfl) B.isi (by decide +kernel) (pa_cons (pv 2) (pa_cons (pe_bltn (v := .ty "str") (by rfl) B.str (by decide +kernel) rfl) pa_nil)))) (pv 2) (pe_ix (ix_listK K) (pv 1) (pv 2) (fun _ _ => rfl)))) pa_nil))), ?_⟩
    refine ⟨_, rfl, a, rfl, ⟨_, SqT.of ha1⟩, fun D hD => ?_⟩
    refine lc_tup (K := K) (a := a) (xs := r.map Pt.v) (fun i H' => Same H H' ∧ H' D = some (.lst ((renR l (r.take i)).map Pt.v))) ⟨same_new hD, upd_same⟩ (fun i H' _ h => SqT.of (h.1 _ _ ha1)) ?_ ?_
    · rintro i x H1 hi ⟨s1, hL⟩
      obtain ⟨q, hq, rfl⟩ : ∃ q, r[i]? = some q ∧ x = Pt.v q := by
        rw [List.getElem?_map] at hi
        cases e : r[i]? with
        | none =>
          rw [e] at hi
          cases hi
        | some y =>
          rw [e] at hi
          exact ⟨y, rfl, (Option.some.inj hi).symm⟩
      have more : (renR l (r.take (i + 1))).map Pt.v = (renR l (r.take i)).map Pt.v ++ [(renP l q).v] := by
        unfold renR
        rw [List.take_add_one, hq, List.map_append, List.map_append]
        rfl
      have done : ∃ acc, H1 D = some (.lst acc) ∧ acc.length < sizeLine ∧ Same H (upd H1 D (.lst (acc ++ [(renP l q).v]))) ∧ upd H1 D (.lst (acc ++ [(renP l q).v])) D = some (.lst ((renR l (r.take (i + 1))).map Pt.v)) := by
        refine ⟨_, hL, ?_, Same.put s1 hD, by rw [upd_same, more]⟩
        unfold renR
        rw [List.length_map, List.length_map, List.length_take]
        exact Nat.lt_of_le_of_lt (Nat.le_trans (Nat.min_le_right _ _) hl) (by decide)
      refine ⟨rfl, ?_⟩
      obtain ⟨ty, tb, t1, t2, t3, t4⟩ := isi_pt (K := K) (H := H1) q
      refine ⟨_, rfl, q.v, _, ty, _, tb, rfl, .ty _, t1, t2, _, rfl, ?_⟩
      cases tb with
      | true =>
        obtain ⟨z, rfl⟩ := t3 rfl
        exact iteT ⟨_, rfl, done⟩
      | false =>
        obtain ⟨j, rfl⟩ := t4 rfl
        have hj : j < l.length := hb j (List.mem_flatMap.mpr ⟨_, List.mem_of_getElem? hq, List.mem_singleton.mpr rfl⟩)
        refine iteF ⟨_, rfl, _, rfl, n, _, (j : Int), (renP l (.b j)).v, rfl, rfl, SqL.of (s1 _ _ hn), atI_nat ?_, done⟩
        unfold iN
        rw [List.getElem?_map, List.getElem?_map, List.getElem?_eq_getElem hj]
        show some (V.int (l[j] : Nat)) = some (V.int (l.getD j 0 : Nat))
        rw [List.getD_eq_getElem?_getD, List.getElem?_eq_getElem hj]
        rfl
    · rintro H1 ⟨s1, hL⟩
      rw [List.length_map, List.take_length] at hL
      exact ⟨D, _, rfl, .inl ⟨SqL.of hL, fun t ht => k t _ (Same.trans s1 (same_new ht)) upd_same⟩⟩
end

theorem tpAll_rev {H : Hp} : ∀ {vs : List V} {ds : List PyData}, TpAll H vs ds → TpAll H vs.reverse ds.reverse
  | _, _, .nil => .nil
  | _, _, .cons h hs => by
    rw [List.reverse_cons, List.reverse_cons]
    exact (tpAll_rev hs).app (.cons h .nil)
def nEx : List Str := ["writer", "names", "rules", "row", "entries", "entry", "fills", "ends", "recipe", "end"]
theorem sc_exchanged : FnScope nEx ["writer"] (fnScope st_law_exchanged) := fnScope_by (by decide +kernel)
def spExchanged : Sp := fun vs H Q _ => ∃ (x : V) (W : Wr) (k S B : Nat), vs = [x] ∧ Tp H x W.d ∧ WOk k S B W ∧ 1 ≤ B ∧ k ≤ 1000 ∧ S ≤ 1000 ∧ B ≤ 1000 ∧ ∀ (t : Addr) H', Same H H' → Tp H' (.ref t) (exW W).d → Q (.ref t) H'
section
variable {P : Program} {w : World} {K : PySem.W.Frag} {mg : Str → Option Value} {base : Heap} {f : Addr} {fd : FuncData}
theorem cal_exchanged (F : C8.Def K mg "_law_exchanged" st_law_exchanged f fd) (b : Binds K fd ["writer"] []) (B : BN2 mg) (Cr : Cal P w K mg base 1 "_law_renamed" spRenamed []) : Cal P w K mg base 2 "_law_exchanged" spExchanged [] := by
  refine cal0 F b .nil sc_exchanged (fun vs H Q E h => ?_) (fun cdv A outer s H vs Q E hr h => ?_)
  · obtain ⟨x, W, k, S, B, rfl, _⟩ := h
    rfl
  · obtain ⟨x, W, kk, S, Bf, rfl, ha, hW, b1, k1000, s1000, b1000, k⟩ := h
    obtain ⟨a, vb, vr, ve, rfl, ha1, tb, tr, te⟩ := ha.w_inv
    obtain ⟨ba, bx, rfl, tb1, tb2⟩ := tb.tup_inv
    obtain ⟨ra, rx, rfl, tr1, tr2⟩ := tr.tup_inv
    obtain ⟨ea, ex, rfl, te1, te2⟩ := te.tup_inv
    have lb : bx.length = W.begins.length := by rw [tb2.len, List.length_map]
    have lr : rx.length = W.rules.length := by rw [tr2.len, List.length_map]
    have le : ex.length = W.ends.length := by rw [te2.len, List.length_map]
    have en : namesX W = (List.range Bf).reverse := by
      unfold namesX
      rw [hW.b1]
    have bl := hW.b1
    have len_n : (namesX W).length = Bf := by rw [en, List.length_reverse, List.length_range]
    refine ⟨_, pss_cons (ps_set (i := 1) sc_exchanged.nd rfl (Or.inr rfl) (pe_revL (pe_listRg rfl (by rfl) B.list (prg_1 (by rfl) B.range (pe_callB call_len_seq (by rfl) B.len PySem.boot_len (pa_cons (pe_ix ix_tup (pv 0) pe_int (fun _ _ => rfl)) pa_nil))))))
      (pss_cons (ps_set (i := 2) sc_exchanged.nd rfl (Or.inl rfl) (pe_lst pa_nil))
      (pss_cons (ps_for PassesOwn.never rfl (pi_tup (pe_ix ix_tup (pv 0) pe_int (fun _ _ => rfl))) (pg_name (i := 3) sc_exchanged.nd rfl (Or.inl rfl))
        (pss_cons (ps_set (i := 4) sc_exchanged.nd rfl (Or.inl rfl) (pe_lst pa_nil))
        (pss_cons (ps_for PassesOwn.never rfl (pi_tup (pv 3)) (pg_name (i := 5) sc_exchanged.nd rfl (Or.inl rfl))
          (pss_one (ps_if (pt_cmp (pc_isN (pv 5)))
            (pss_one (ps_expr (pe_bm PySem.F.plainAttrs_list PySem.F.slot_list_append PySem.F.type_list_append mt_append (pv 4) (pa_cons pe_non pa_nil))))
            (pss_cons (ps_setLc (i := 6) (own := [("recipe", 8)]) (g := gName 8) (tt := tYes) (by rfl) sc_exchanged.nd rfl rfl (sw_true rfl rfl rfl (by decide +kernel)) (pi_tup (pe_ix ix_tup (pv 5) pe_int (fun _ _ => rfl)))
              (blkOk_by (own := [("recipe", 8)]) (N := nEx) (sc := fnScope st_law_exchanged) (by decide +kernel)) (fun _ _ _ _ _ => pg_name (i := 8) sc_exchanged.nd rfl (Or.inl rfl)) (fun _ _ _ _ _ => pts_nil)
              (fun _ _ _ _ _ => pe_c Cr hr (by decide) (by rfl) (pa_cons (pv 8) (pa_cons (pv 1) pa_nil))))
            (pss_one (ps_expr (pe_bm PySem.F.plainAttrs_list PySem.F.slot_list_append PySem.F.type_list_append mt_append (pv 4) (pa_cons (pe_tup (pa_cons (pe_ix ix_tup (pv 5) pe_int (fun _ _ => rfl)) (pa_cons (pe_callTy call_tuple_of (by rfl) B.tuple (by decide +kernel) (pa_cons (pe_revL (pv 6)) pa_nil)) pa_nil))) pa_nil))))))))
        (pss_one (ps_expr (pe_bm PySem.F.plainAttrs_list PySem.F.slot_list_append PySem.F.type_list_append mt_append (pv 2) (pa_cons (pe_callTy call_tuple_of (by rfl) B.tuple (by decide +kernel) (pa_cons (pv 4) pa_nil)) pa_nil)))))))
      (pss_cons (ps_setLc (i := 7) (own := [("end", 9)]) (g := gName 9) (tt := tYes) (by rfl) sc_exchanged.nd rfl rfl (sw_true rfl rfl rfl (by decide +kernel)) (pi_tup (pe_ix ix_tup (pv 0) pe_int (fun _ _ => rfl)))
          (blkOk_by (own := [("end", 9)]) (N := nEx) (sc := fnScope st_law_exchanged) (by decide +kernel)) (fun _ _ _ _ _ => pg_name (i := 9) sc_exchanged.nd rfl (Or.inl rfl)) (fun _ _ _ _ _ => pts_nil)
          (fun _ _ _ _ _ => pe_ifExp (pt_cmp (pc_isN (pv 9))) pe_non (pe_c Cr hr (by decide) (by rfl) (pa_cons (pv 9) (pa_cons (pv 1) pa_nil)))))
      (pss_one (ps_ret (pe_tup (pa_cons (pe_revT (pe_ix ix_tup (pv 0) pe_int (fun _ _ => rfl))) (pa_cons (pe_callTy call_tuple_of (by rfl) B.tuple (by decide +kernel) (pa_cons (pv 2) pa_nil)) (pa_cons (pe_callTy call_tuple_of (by rfl) B.tuple (by decide +kernel) (pa_cons (pv 7) pa_nil)) pa_nil))))))))), ?_⟩
    refine ⟨_, rfl, a, _, _, _, rfl, rfl, SqT.of ha1, atI_nat (j := 0) rfl, ba, _, rfl, .inr (SqT.of tb1), _, rfl, RgOk.of_le (by decide) (by omega) (by decide) (by omega), fun l hl => ⟨l, _, rfl, SqL.of upd_same, fun nm hnm => ?_⟩⟩
    have s0 : Same H (upd (upd H l (.lst (rgV 0 ((bx.length : Nat) : Int)))) nm (.lst (rgV 0 ((bx.length : Nat) : Int)).reverse)) := Same.trans (same_new hl) (same_new hnm)
    have hN : upd (upd H l (.lst (rgV 0 ((bx.length : Nat) : Int)))) nm (.lst (rgV 0 ((bx.length : Nat) : Int)).reverse) nm = some (.lst ((iN (namesX W)).map V.int)) := by
      rw [upd_same, rg_eq, lb]
      unfold namesX iN
      rw [List.map_reverse, List.map_reverse]
    generalize upd (upd H l (.lst (rgV 0 ((bx.length : Nat) : Int)))) nm (.lst (rgV 0 ((bx.length : Nat) : Int)).reverse) = H1 at s0 hN ⊢
    clear hl hnm
    refine ⟨Nat.zero_le _, fun R hR => ?_⟩
    refine ⟨_, rfl, a, _, _, _, rfl, rfl, SqT.of (Same.trans s0 (same_new hR) _ _ ha1), atI_nat (j := 1) rfl, ra, rfl, ⟨_, SqT.of (Same.trans s0 (same_new hR) _ _ tr1)⟩, for_tup (K := K) (a := ra) (xs := rx) (fun i σ H' => (∃ v3 v4 v5 v6 : Option V, σ = [some (.ref a), some (.ref nm), some (.ref R), v3, v4, v5, v6, none, none, none]) ∧
      Same H1 H' ∧ H1 R = none ∧ LAt H' R ((W.rules.take i).map fun row => rowD (row.map (exE (namesX W))))) ⟨⟨_, _, _, _, rfl⟩, same_new hR, hR, [], upd_same, .nil⟩ (fun i σ H' _ h => SqT.of (h.2.1 _ _ (s0 _ _ tr1))) ?_ ?_⟩
    · rintro i xr σ H2 hi ⟨⟨v3, v4, v5, v6, rfl⟩, s2, R0, hR2⟩
      have ilt : i < W.rules.length := by
        have q := (List.getElem?_eq_some_iff.mp hi).1
        omega
      have hrow := List.getElem?_eq_getElem ilt
      obtain ⟨xr', hx', txr⟩ := tr2.at hrow
      rw [hi] at hx'
      cases hx'
      obtain ⟨rowk, rowe⟩ := hW.r2 _ (List.getElem_mem ilt)
      generalize W.rules[i] = row at *
      obtain ⟨wa, wx, rfl, w1, w2⟩ := txr.tup_inv
      have lw : wx.length = row.length := by rw [w2.len, List.length_map]
      refine ⟨Nat.zero_le _, fun Ea hE => ?_⟩
      have sA := Same.trans s0 s2
      refine ⟨_, rfl, wa, rfl, ⟨_, SqT.of (same_new hE _ _ (sA _ _ w1))⟩, for_tup (K := K) (a := wa) (xs := wx) (fun j σ H' => (∃ v5 v6 : Option V, σ = [some (.ref a), some (.ref nm), some (.ref R), some (.ref wa), some (.ref Ea), v5, v6, none, none, none]) ∧
        Same H2 H' ∧ H2 Ea = none ∧ LAt H' Ea (((row.take j).map (exE (namesX W))).map entD)) ⟨⟨_, _, rfl⟩, same_new hE, hE, [], upd_same, .nil⟩ (fun j σ H' _ h => SqT.of (h.2.1 _ _ (sA _ _ w1))) ?_ ?_⟩
      · rintro j xe σ H3 hj ⟨⟨v5, v6, rfl⟩, s3, E0, hE3⟩
        have jlt : j < row.length := by
          have q := (List.getElem?_eq_some_iff.mp hj).1
          omega
        have hent := List.getElem?_eq_getElem jlt
        obtain ⟨xe', hx', txe⟩ := w2.at hent
        rw [hj] at hx'
        cases hx'
        have eok := rowe _ (List.getElem_mem jlt)
        generalize row[j] = e at *
        have more : ((row.take (j + 1)).map (exE (namesX W))).map entD = ((row.take j).map (exE (namesX W))).map entD ++ [entD (exE (namesX W) e)] := by
          rw [List.take_add_one, hent, List.map_append, List.map_append]
          rfl
        have sB := Same.trans sA s3
        have txe3 := txe.mono (Same.tk sB)
        refine ⟨_, rfl, _, rfl, ?_⟩
        have small : ∀ vs : List V, TpAll H3 vs (((row.take j).map (exE (namesX W))).map entD) → vs.length < sizeLine := fun vs av => by
          rw [av.len, List.length_map, List.length_map, List.length_take]
          exact Nat.lt_of_le_of_lt (Nat.le_trans (Nat.min_le_right _ _) (show row.length ≤ 1000 by omega)) (by decide)
        cases e with
        | none =>
          obtain rfl := txe.non_inv
          obtain ⟨us, hu, au⟩ := hE3
          refine iteT' (decide_eq_true rfl) ?_
          refine ⟨_, rfl, .inl ⟨rfl, _, SqL.of hu⟩, Ea, us, _, rfl, rfl, hu, small us au, ⟨_, _, rfl⟩, Same.put s3 E0, E0, ?_⟩
          rw [more]
          exact LAt.push hu au .non
        | some y =>
          obtain ⟨tg, fs⟩ := y
          obtain ⟨tlt, fok⟩ := eok tg fs rfl
          obtain ⟨ya, yx, rfl, y1, y2⟩ := txe3.tup_inv
          cases y2 with
          | @cons vt x2 _ _ tt h2 =>
          cases h2 with
          | @cons vf x3 _ _ tf h3 =>
          cases h3
          obtain rfl := tt.int_inv
          obtain ⟨fa, fx, rfl, f1, f2⟩ := tf.tup_inv
          have lf : fx.length = fs.length := by rw [f2.len, List.length_map]
          refine iteF' (decide_eq_false (fun z => by cases z)) ?_
          refine ⟨_, rfl, ya, _, _, _, rfl, rfl, SqT.of y1, atI_nat (j := 1) rfl, fa, rfl, ⟨_, SqT.of f1⟩, fun D hD => ?_⟩
          refine lc_tup (K := K) (a := fa) (xs := fx) (fun g H' => Same H3 H' ∧ H3 D = none ∧ LAt H' D ((fs.take g).map fun r => (renR (namesX W) r).d)) ⟨same_new hD, hD, [], upd_same, .nil⟩ (fun g H' _ h => SqT.of (h.1 _ _ f1)) ?_ ?_
          · rintro g xg H4 hg ⟨s4, D0, zs, hz, az⟩
            have glt : g < fs.length := by
              have q := (List.getElem?_eq_some_iff.mp hg).1
              omega
            have hrec := List.getElem?_eq_getElem glt
            obtain ⟨xg', hx', txg⟩ := f2.at hrec
            rw [hg] at hx'
            cases hx'
            have rok := fok.each _ (List.getElem_mem glt)
            have rlt : ∀ i ∈ bufs fs[g], i < (namesX W).length := fun i hi => by
              rw [len_n]
              exact fok.lt i (List.mem_flatMap.mpr ⟨_, List.getElem_mem glt, hi⟩)
            generalize fs[g] = r at *
            have more2 : ((fs.take (g + 1)).map fun r => (renR (namesX W) r).d) = ((fs.take g).map fun r => (renR (namesX W) r).d) ++ [(renR (namesX W) r).d] := take_map_more hrec
            have sN : Same H1 H4 := Same.trans (Same.trans s2 s3) s4
            refine ⟨rfl, _, rfl, _, rfl, xg, nm, r, namesX W, rfl, txg.mono (Same.tk s4), sN _ _ hN, rlt, Nat.le_trans rok.len (by decide), fun t H5 s5 ht => ?_⟩
            refine ⟨zs, s5 _ _ hz, ?_, Same.put (Same.trans s4 s5) D0, D0, ?_⟩
            · rw [az.len, List.length_map, List.length_take]
              have := fok.len
              exact Nat.lt_of_le_of_lt (Nat.le_trans (Nat.min_le_right _ _) (show fs.length ≤ 1000 by omega)) (by decide)
            · rw [more2]
              exact LAt.push (s5 _ _ hz) (az.mono (Same.tk s5)) (tp_rc ht)
          · rintro H4 ⟨s4, D0, zs, hz, az⟩
            rw [lf, List.take_length] at az
            obtain ⟨us, hu, au⟩ := hE3
            have nED : Ea ≠ D := ne_of_none hu D0
            refine ⟨_, rfl, .inl ⟨rfl, _, SqL.of (s4 _ _ hu)⟩, _, rfl, ya, _, _, _, rfl, rfl, SqT.of (s4 _ _ y1), atI_nat (j := 0) rfl, _, rfl, D, _, rfl, SqL.of hz, fun D2 hD2 => ⟨D2, _, rfl, .inl ⟨SqL.of upd_same, fun t ht => ⟨(by show 2 ≤ sizeLine; decide), fun q hq => ?_⟩⟩⟩⟩
            have s5 := Same.trans (same_new (o := .lst zs.reverse) hD2) (same_new (o := .tup zs.reverse) ht)
            have hT : upd (upd (upd H4 D2 (.lst zs.reverse)) t (.tup zs.reverse)) q (.tup [.int tg, .ref t]) t = some (.tup zs.reverse) := same_new hq _ _ upd_same
            have s6 := Same.trans s5 (same_new (o := .tup [.int tg, .ref t]) hq)
            have s46 := Same.trans s4 s6
            refine ⟨Ea, us, _, rfl, rfl, s46 _ _ hu, small us au, ⟨_, _, rfl⟩, Same.put (Same.trans s3 s46) E0, E0, ?_⟩
            rw [more]
            refine LAt.push (s46 _ _ hu) (au.mono (Same.tk s46)) (.tup upd_same (.cons (.int tg) (.cons (.tup hT ?_) .nil)))
            have e2 : ((fs.map (renR (namesX W))).reverse.map Rc.d) = (fs.map fun r => (renR (namesX W) r).d).reverse := by
              rw [List.map_reverse, List.map_map]
              rfl
            rw [e2]
            exact (tpAll_rev az).mono (Same.tk s6)
      · rintro σ H3 ⟨⟨v5, v6, rfl⟩, s3, E0, hE3⟩
        have e : wx.length = row.length := lw
        rw [e, List.take_length] at hE3
        obtain ⟨us, hu, au⟩ := hE3
        obtain ⟨rs, hr2, ar⟩ := hR2.same s3
        refine ⟨_, rfl, .inl ⟨rfl, _, SqL.of hr2⟩, _, rfl, Ea, us, rfl, .inl ⟨SqL.of hu, fun t ht => ?_⟩⟩
        have s4 := Same.trans s3 (same_new (o := .tup us) ht)
        refine ⟨R, rs, _, rfl, rfl, same_new ht _ _ hr2, ?_, ⟨_, _, _, _, rfl⟩, Same.put (Same.trans s2 s4) R0, R0, ?_⟩
        · rw [ar.len, List.length_map, List.length_take]
          have := hW.r1
          exact Nat.lt_of_le_of_lt (Nat.le_trans (Nat.min_le_right _ _) (show W.rules.length ≤ 1000 by omega)) (by decide)
        · rw [take_map_more hrow]
          exact LAt.push (same_new ht _ _ hr2) (ar.mono (tk_new ht)) (.tup upd_same (au.mono (tk_new ht)))
    · rintro σ H2 ⟨⟨v3, v4, v5, v6, rfl⟩, s2, R0, hR2⟩
      rw [lr, List.take_length] at hR2
      have sA := Same.trans s0 s2
      refine ⟨_, rfl, a, _, _, _, rfl, rfl, SqT.of (sA _ _ ha1), atI_nat (j := 2) rfl, ea, rfl, ⟨_, SqT.of (sA _ _ te1)⟩, fun D hD => ?_⟩
      refine lc_tup (K := K) (a := ea) (xs := ex) (fun g H' => Same H2 H' ∧ H2 D = none ∧ LAt H' D ((W.ends.take g).map fun e => endD (exN (namesX W) e))) ⟨same_new hD, hD, [], upd_same, .nil⟩ (fun g H' _ h => SqT.of (h.1 _ _ (sA _ _ te1))) ?_ ?_
      · rintro g xg H4 hg ⟨s4, D0, zs, hz, az⟩
        have glt : g < W.ends.length := by
          have q := (List.getElem?_eq_some_iff.mp hg).1
          omega
        have hrec := List.getElem?_eq_getElem glt
        obtain ⟨xg', hx', txg⟩ := te2.at hrec
        rw [hg] at hx'
        cases hx'
        have eok := hW.e2 _ (List.getElem_mem glt)
        generalize W.ends[g] = e at *
        have more2 : ((W.ends.take (g + 1)).map fun e => endD (exN (namesX W) e)) = ((W.ends.take g).map fun e => endD (exN (namesX W) e)) ++ [endD (exN (namesX W) e)] := take_map_more hrec
        have zl : zs.length < sizeLine := by
          rw [az.len, List.length_map, List.length_take]
          have := hW.e1
          exact Nat.lt_of_le_of_lt (Nat.le_trans (Nat.min_le_right _ _) (show W.ends.length ≤ 1000 by omega)) (by decide)
        have sB := Same.trans sA s4
        refine ⟨rfl, _, rfl, _, rfl, ?_⟩
        cases e with
        | none =>
          obtain rfl := txg.non_inv
          refine iteT' (decide_eq_true rfl) ⟨zs, hz, zl, Same.put s4 D0, D0, ?_⟩
          rw [more2]
          exact LAt.push hz az .non
        | some r =>
          have txg4 := txg.mono (Same.tk sB)
          have ne : xg ≠ .non := by
            obtain ⟨ra', rx', rfl, _⟩ := txg.tup_inv
            intro z
            cases z
          have rok := eok r rfl
          refine iteF' (decide_eq_false ne) ?_
          refine ⟨_, rfl, _, rfl, xg, nm, r, namesX W, rfl, txg4, (Same.trans s2 s4) _ _ hN, fun i hi => by rw [len_n]; exact rok.lt i hi, Nat.le_trans rok.ok.len (by decide), fun t H5 s5 ht => ?_⟩
          refine ⟨zs, s5 _ _ hz, zl, Same.put (Same.trans s4 s5) D0, D0, ?_⟩
          rw [more2]
          exact LAt.push (s5 _ _ hz) (az.mono (Same.tk s5)) (tp_rc ht)
      · rintro H4 ⟨s4, D0, zs, hz, az⟩
        rw [le, List.take_length] at az
        obtain ⟨us, hu, au⟩ := hR2
        have sB := Same.trans sA s4
        refine ⟨_, rfl, a, _, _, _, rfl, rfl, SqT.of (sB _ _ ha1), atI_nat (j := 0) rfl, ba, _, rfl, SqT.of (sB _ _ tb1), fun q1 hq1 => ?_⟩
        have u1 := same_new (o := .tup bx.reverse) hq1 _ _ (s4 _ _ hu)
        refine ⟨_, rfl, R, us, rfl, .inl ⟨SqL.of u1, fun q2 hq2 => ?_⟩⟩
        have s5 := Same.trans (same_new (o := .tup bx.reverse) hq1) (same_new (o := .tup us) hq2)
        refine ⟨_, rfl, D, zs, rfl, .inl ⟨SqL.of (s5 _ _ hz), fun q3 hq3 => ⟨(by show 3 ≤ sizeLine; decide), fun t ht => ?_⟩⟩⟩
        have s6 := Same.trans s5 (same_new (o := .tup zs) hq3)
        have s7 := Same.trans s6 (same_new (o := .tup [.ref q1, .ref q2, .ref q3]) ht)
        refine k t _ (Same.trans sB s7) (.tup upd_same (.cons (.tup (xs := bx.reverse) ?_ ?_) (.cons (.tup (xs := us) ?_ ?_) (.cons (.tup (xs := zs) ?_ ?_) .nil))))
        · exact (Same.trans (Same.trans (same_new (o := .tup us) hq2) (same_new (o := .tup zs) hq3)) (same_new ht)) _ _ upd_same
        · show TpAll _ _ (W.begins.reverse.map .str)
          rw [List.map_reverse]
          exact tpAll_rev (tb2.mono (Same.tk (Same.trans sB s7)))
        · exact (Same.trans (same_new (o := .tup zs) hq3) (same_new ht)) _ _ upd_same
        · show TpAll _ _ ((W.rules.map fun row => row.map (exE (namesX W))).map rowD)
          rw [List.map_map]
          exact (au.mono (Same.tk s4)).mono (Same.tk s7)
        · exact same_new ht _ _ upd_same
        · show TpAll _ _ ((W.ends.map (exN (namesX W))).map endD)
          rw [List.map_map]
          exact az.mono (Same.tk s7)
end

/-! ### the same writer, its states twice -/
def nDb : List Str := ["pen", "writer", "states", "rules", "row", "entries", "entry", "by"]
theorem sc_doubled : FnScope nDb ["pen", "writer"] (fnScope st_law_doubled) := fnScope_by (by decide +kernel)
def spDoubled : Sp := fun vs H Q _ => ∃ (p c : Addr) (x : V) (W : Wr) (k S B : Nat), vs = [.ref p, x] ∧ Pen H p c ∧ Tp H x W.d ∧ WOk k S B W ∧ 1 ≤ S ∧ k ≤ 1000 ∧ S ≤ 400 ∧
  ∀ (W' : Wr) (t : Addr) H', WOk k (S + S) B W' → (Tight W → Tight W') → Kp p c H H' → Tp H' (.ref t) W'.d → Q (.ref t) H'
theorem lt_many {n : Nat} (h : n ≤ 2000) : n < sizeLine := Nat.lt_of_le_of_lt h (by decide)
section
variable {P : Program} {w : World} {K : PySem.W.Frag} {mg : Str → Option Value} {base : Heap} {f : Addr} {fd : FuncData}
theorem cal_doubled (F : C8.Def K mg "_law_doubled" st_law_doubled f fd) (b : Binds K fd ["pen", "writer"] []) (B : BN2 mg) (Cd : Cal P w K mg base 2 "_law_draw" spDraw []) : Cal P w K mg base 3 "_law_doubled" spDoubled [] := by
  refine cal0 F b .nil sc_doubled (fun vs H Q E h => ?_) (fun cdv A outer s H vs Q E hr h => ?_)
  · obtain ⟨p, c, x, W, k, S, B, rfl, _⟩ := h
    rfl
  · obtain ⟨p, c, x, W, kk, S, Bf, rfl, hP, ha, hW, s1, k1000, s400, k⟩ := h
    obtain ⟨a, vb, vr, ve, rfl, ha1, tb, tr, te⟩ := ha.w_inv
    have tr0 := tr
    obtain ⟨ra, rx, rfl, tr1, tr2⟩ := tr.tup_inv
    have lr : rx.length = W.rules.length := by rw [tr2.len, List.length_map]
    have er := hW.r1
    have ee := hW.e1
    refine ⟨_, pss_cons (ps_par (i := 2) (j := 3) rfl sc_doubled.nd rfl rfl (by decide) rfl rfl (pa_cons (pe_callB call_len_seq (by rfl) B.len PySem.boot_len (pa_cons (pe_ix ix_tup (pv 1) pe_int (fun _ _ => rfl)) pa_nil)) (pa_cons (pe_lst pa_nil) pa_nil)) (by rfl))
      (pss_cons (ps_for PassesOwn.never rfl (pi_tup (pe_op op_catA (pe_ix ix_tup (pv 1) pe_int (fun _ _ => rfl)) (pe_ix ix_tup (pv 1) pe_int (fun _ _ => rfl)))) (pg_name (i := 4) sc_doubled.nd rfl (Or.inl rfl))
        (pss_cons (ps_set (i := 5) sc_doubled.nd rfl (Or.inl rfl) (pe_lst pa_nil))
        (pss_cons (ps_for PassesOwn.never rfl (pi_tup (pv 4)) (pg_name (i := 6) sc_doubled.nd rfl (Or.inl rfl))
          (pss_cons (ps_set (i := 7) sc_doubled.nd rfl (Or.inl rfl) (pe_op op_mul (pv 2) (pe_c Cd hr (by decide) (by rfl) (pa_cons (pv 0) (pa_cons pe_int pa_nil)))))
          (pss_one (ps_expr (pe_bm PySem.F.plainAttrs_list PySem.F.slot_list_append PySem.F.type_list_append mt_append (pv 5) (pa_cons (pe_ifExp (pt_cmp (pc_isN (pv 6))) pe_non
            (pe_tup (pa_cons (pe_op op_add (pe_ix ix_tup (pv 6) pe_int (fun _ _ => rfl)) (pv 7)) (pa_cons (pe_ix ix_tup (pv 6) pe_int (fun _ _ => rfl)) pa_nil)))) pa_nil))))))
        (pss_one (ps_expr (pe_bm PySem.F.plainAttrs_list PySem.F.slot_list_append PySem.F.type_list_append mt_append (pv 3) (pa_cons (pe_callTy call_tuple_of (by rfl) B.tuple (by decide +kernel) (pa_cons (pv 5) pa_nil)) pa_nil)))))))
      (pss_one (ps_ret (pe_tup (pa_cons (pe_ix ix_tup (pv 1) pe_int (fun _ _ => rfl)) (pa_cons (pe_callTy call_tuple_of (by rfl) B.tuple (by decide +kernel) (pa_cons (pv 3) pa_nil)) (pa_cons (pe_op op_catA (pe_ix ix_tup (pv 1) pe_int (fun _ _ => rfl)) (pe_ix ix_tup (pv 1) pe_int (fun _ _ => rfl))) pa_nil))))))), ?_⟩
    refine ⟨_, rfl, a, _, _, _, rfl, rfl, SqT.of ha1, atI_nat (j := 1) rfl, ra, _, rfl, .inr (SqT.of tr1), Nat.zero_le _, fun R hR => ⟨_, _, rfl, ?_⟩⟩
    have sR := same_new (o := .lst []) hR
    refine ⟨_, rfl, a, _, _, _, rfl, rfl, SqT.of (sR _ _ ha1), atI_nat (j := 1) rfl, _, rfl, a, _, _, _, rfl, rfl, SqT.of (sR _ _ ha1), atI_nat (j := 1) rfl, ?_⟩
    refine cat_tp (tr0.mono (Same.tk sR)) (tr0.mono (Same.tk sR)) (by rw [List.length_map]; omega) (by rw [List.length_map]; omega) fun v H5 s5 tv => ?_
    obtain ⟨ca, cx, rfl, c1, c2⟩ := tv.tup_inv
    rw [← List.map_append] at c2
    have lc : cx.length = (W.rules ++ W.rules).length := by rw [c2.len, List.length_map]
    have s05 := Same.trans sR s5
    have k5 : Kp p c H H5 := (Kp.rfl' hP).same s05
    have hR5 : H5 R = some (.lst []) := s5 _ _ upd_same
    refine ⟨ca, rfl, ⟨_, SqT.of c1⟩, for_tup (K := K) (a := ca) (xs := cx) (fun i σ H' => (∃ v4 v5 v6 v7 : Option V, σ = [some (.ref p), some (.ref a), some (.int rx.length), some (.ref R), v4, v5, v6, v7]) ∧
      Kp p c H H' ∧ TK H5 H' ∧ ∃ rows : List (List (Option (Nat × List Rc))), LAt H' R (rows.map rowD) ∧ rows.length = i ∧ ∀ row ∈ rows, row.length = kk ∧ ∀ e ∈ row, EntOk (S + S) Bf e)
      ⟨⟨_, _, _, _, rfl⟩, k5, fun _ _ e => e, [], ⟨[], hR5, .nil⟩, rfl, fun row h => by cases h⟩ (fun i σ H' _ h => SqT.of (h.2.2.1 _ _ c1)) ?_ ?_⟩
    · rintro i xr σ H6 hi ⟨⟨v4, v5, v6, v7, rfl⟩, k6, t6, rows, hR6, hrl, hrow⟩
      have ilt : i < (W.rules ++ W.rules).length := by
        have q := (List.getElem?_eq_some_iff.mp hi).1
        omega
      have hrow0 := List.getElem?_eq_getElem ilt
      obtain ⟨xr', hx', txr⟩ := c2.at hrow0
      rw [hi] at hx'
      cases hx'
      have hmem : (W.rules ++ W.rules)[i] ∈ W.rules := (List.mem_append.mp (List.getElem_mem ilt)).elim id id
      obtain ⟨rowk, rowe⟩ := hW.r2 _ hmem
      generalize (W.rules ++ W.rules)[i] = row at *
      obtain ⟨wa, wx, rfl, w1, w2⟩ := txr.tup_inv
      have lw : wx.length = row.length := by rw [w2.len, List.length_map]
      refine ⟨Nat.zero_le _, fun Ea hE => ?_⟩
      have E0 : H Ea = none := k6.free hE
      have nEp := hP.ne E0
      have R0 : H R = none := hR
      have nRp := hP.ne R0
      have nRE : R ≠ Ea := by
        obtain ⟨vs, h1, _⟩ := hR6
        exact ne_of_none h1 hE
      refine ⟨_, rfl, wa, rfl, ⟨_, SqT.of (tk_new hE _ _ (t6 _ _ w1))⟩, for_tup (K := K) (a := wa) (xs := wx) (fun j σ H' => (∃ v6 v7 : Option V, σ = [some (.ref p), some (.ref a), some (.int rx.length), some (.ref R), some (.ref wa), some (.ref Ea), v6, v7]) ∧
        Kp p c H H' ∧ TK H5 H' ∧ LAt H' R (rows.map rowD) ∧ ∃ es : List (Option (Nat × List Rc)), LAt H' Ea (es.map entD) ∧ es.length = j ∧ ∀ e ∈ es, EntOk (S + S) Bf e)
        ⟨⟨_, _, rfl⟩, k6.new hE, t6.trans (tk_new hE), hR6.same (same_new hE), [], ⟨[], upd_same, .nil⟩, rfl, fun e h => by cases h⟩ (fun j σ H' _ h => SqT.of (h.2.2.1 _ _ w1)) ?_ ?_⟩
      · rintro j xe σ H7 hj ⟨⟨v6, v7, rfl⟩, k7, t7, hR7, es, hE7, hel, hes⟩
        have jlt : j < row.length := by
          have q := (List.getElem?_eq_some_iff.mp hj).1
          omega
        have hent := List.getElem?_eq_getElem jlt
        obtain ⟨xe', hx', txe⟩ := w2.at hent
        rw [hj] at hx'
        cases hx'
        have eok := rowe _ (List.getElem_mem jlt)
        generalize row[j] = e at *
        refine ⟨_, rfl, _, rfl, p, c, 2, rfl, k7.pen, by decide, by decide, fun d H8 d0 d1 k8 => ⟨_, _, rfl, rfl, .inr ⟨by omega, by omega⟩, ?_⟩⟩
        have kA := k7.trans k8
        have tA := t7.trans (k8.tk k7.pen)
        obtain ⟨us, hu, au⟩ := hE7.kp nEp k7.pen k8
        have hRA := hR7.kp nRp k7.pen k8
        have ul : us.length < sizeLine := lt_many (by rw [au.len, List.length_map]; omega)
        refine ⟨_, rfl, .inl ⟨rfl, _, SqL.of hu⟩, _, rfl, _, rfl, ?_⟩
        cases e with
        | none =>
          obtain rfl := txe.non_inv
          refine iteT' (decide_eq_true rfl) ⟨Ea, us, _, rfl, rfl, hu, ul, ⟨_, _, rfl⟩, kA.put hP E0, tA.trans (tk_lst hu), hRA.put hu nRE, es ++ [none], ?_, ?_, ?_⟩
          · rw [List.map_append]
            exact LAt.push hu au .non
          · rw [List.length_append, hel]
            rfl
          · intro e hm
            rcases List.mem_append.mp hm with hm | hm
            · exact hes e hm
            · obtain rfl := List.mem_singleton.mp hm
              intro t' fs' he
              cases he
        | some y =>
          obtain ⟨tg, fs⟩ := y
          obtain ⟨tlt, fok⟩ := eok tg fs rfl
          obtain ⟨ya, yx, rfl, y1, y2⟩ := (txe.mono tA).tup_inv
          cases y2 with
          | @cons vt x2 _ _ tt h2 =>
          cases h2 with
          | @cons vf x3 _ _ tf h3 =>
          cases h3
          obtain rfl := tt.int_inv
          obtain ⟨z, hz⟩ : ∃ z : Nat, (tg : Int) + ((rx.length : Nat) : Int) * d = (z : Int) ∧ z < S + S := by
            have hd : d = 0 ∨ d = 1 := by omega
            rcases hd with rfl | rfl
            · exact ⟨tg, by omega, by omega⟩
            · exact ⟨tg + rx.length, by omega, by omega⟩
          refine iteF' (decide_eq_false (fun z => by cases z)) ?_
          refine ⟨_, rfl, ya, _, _, _, rfl, rfl, SqT.of y1, atI_nat (j := 0) rfl, _, rfl, _, _, rfl, rfl, _, rfl, ya, _, _, _, rfl, rfl, SqT.of y1, atI_nat (j := 1) rfl, (by show 2 ≤ sizeLine; decide), fun q hq => ?_⟩
          have hu8 := same_new (o := .tup [.int ((tg : Int) + ((rx.length : Nat) : Int) * d), vf]) hq _ _ hu
          refine ⟨Ea, us, _, rfl, rfl, hu8, ul, ⟨_, _, rfl⟩, (kA.new hq).put hP E0, (tA.trans (tk_new hq)).trans (tk_lst hu8), (hRA.same (same_new hq)).put hu8 nRE, es ++ [some (z, fs)], ?_, ?_, ?_⟩
          · rw [List.map_append]
            refine LAt.push hu8 (au.mono (tk_new hq)) (.tup upd_same (.cons ?_ (.cons (tf.mono (tk_new hq)) .nil)))
            show Tp _ (.int ((tg : Int) + ((rx.length : Nat) : Int) * d)) _
            rw [hz.1]
            exact .int _
          · rw [List.length_append, hel]
            rfl
          · intro e hm
            rcases List.mem_append.mp hm with hm | hm
            · exact hes e hm
            · obtain rfl := List.mem_singleton.mp hm
              intro t' fs' he
              cases he
              exact ⟨hz.2, fok⟩
      · rintro σ H7 ⟨⟨v6, v7, rfl⟩, k7, t7, hR7, es, hE7, hel, hes⟩
        obtain ⟨us, hu, au⟩ := hE7
        obtain ⟨rs, hr7, ar⟩ := hR7
        refine ⟨_, rfl, .inl ⟨rfl, _, SqL.of hr7⟩, _, rfl, Ea, us, rfl, .inl ⟨SqL.of hu, fun t ht => ?_⟩⟩
        have hr8 := same_new (o := .tup us) ht _ _ hr7
        refine ⟨R, rs, _, rfl, rfl, hr8, lt_many (by rw [ar.len, List.length_map]; rw [List.length_append] at ilt; omega), ⟨_, _, _, _, rfl⟩, (k7.new ht).put hP R0, (t7.trans (tk_new ht)).trans (tk_lst hr8), rows ++ [es], ?_, ?_, ?_⟩
        · rw [List.map_append]
          exact LAt.push hr8 (ar.mono (tk_new ht)) (.tup upd_same (au.mono (tk_new ht)))
        · rw [List.length_append, hrl]
          rfl
        · intro row hm
          rcases List.mem_append.mp hm with hm | hm
          · exact hrow row hm
          · obtain rfl := List.mem_singleton.mp hm
            exact ⟨by omega, hes⟩
    · rintro σ H6 ⟨⟨v4, v5, v6, v7, rfl⟩, k6, t6, rows, hR6, hrl, hrow⟩
      have t06 : TK H H6 := (Same.tk s05).trans t6
      obtain ⟨rs, hr6, ar⟩ := hR6
      refine ⟨_, rfl, a, _, _, _, rfl, rfl, SqT.of (t06 _ _ ha1), atI_nat (j := 0) rfl, _, rfl, R, rs, rfl, .inl ⟨SqL.of hr6, fun q1 hq1 => ?_⟩⟩
      have sq := same_new (o := .tup rs) hq1
      refine ⟨_, rfl, a, _, _, _, rfl, rfl, SqT.of (sq _ _ (t06 _ _ ha1)), atI_nat (j := 2) rfl, _, rfl, a, _, _, _, rfl, rfl, SqT.of (sq _ _ (t06 _ _ ha1)), atI_nat (j := 2) rfl, ?_⟩
      have te6 := (te.mono t06).mono (Same.tk sq)
      refine cat_tp te6 te6 (by rw [List.length_map]; omega) (by rw [List.length_map]; omega) fun v H7 s7 tv => ⟨(by show 3 ≤ sizeLine; decide), fun t ht => ?_⟩
      rw [← List.map_append] at tv
      have s8 := Same.trans (Same.trans sq s7) (same_new (o := .tup [vb, .ref q1, v]) ht)
      refine k ⟨W.begins, rows, W.ends ++ W.ends⟩ t _ ⟨hW.b1, hW.b2, ?_, hrow, ?_, fun e he => ?_⟩ (fun h e he => h e ((List.mem_append.mp he).elim id id)) (k6.same s8) (.tup upd_same (.cons ((tb.mono t06).mono (Same.tk s8)) (.cons (.tup (xs := rs) ?_ (ar.mono (Same.tk s8))) (.cons (tv.mono (tk_new ht)) .nil))))
      · show rows.length = S + S
        rw [hrl, lc, List.length_append]
        omega
      · show (W.ends ++ W.ends).length = S + S
        rw [List.length_append]
        omega
      · exact hW.e2 e ((List.mem_append.mp he).elim id id)
      · exact same_new ht _ _ (s7 _ _ upd_same)
end

/-! ### the same writer with one more buffer -/
theorem sh_neat {k n : Nat} {d : PyData} (h : Neat k n d) (hk : k ≤ 60) : SeqAt.shaped d = true := by
  unfold SeqAt.shaped
  have q := h.dep
  rw [h.lay, decide_eq_true (show d.depth ≤ 64 by omega)]
  rfl
theorem tuple_ne_nil (ds : List PyData) : (!PyData.eqv (.tuple ds) (.tuple [])) = !ds.isEmpty := by
  cases ds with
  | nil => simp only [PyData.eqv, PyData.eqvAll, List.isEmpty_nil]
  | cons a r => simp only [PyData.eqv, PyData.eqvAll, List.isEmpty_cons]
theorem list_eq_nil (ds : List PyData) : PyData.eqv (.list ds) (.list []) = ds.isEmpty := by
  cases ds with
  | nil => simp only [PyData.eqv, PyData.eqvAll, List.isEmpty_nil]
  | cons a r => simp only [PyData.eqv, PyData.eqvAll, List.isEmpty_cons]
theorem op_neDK {X : Cx} (K : PySem.W.Frag) (hu : X.A.units + 64 < cLine) (h : X.K = K := by rfl) : OpR X (compareOp .NotEq) (rNeD K) := by
  rw [← h]
  exact op_neD hu
theorem filter_some {α : Type} {t : α → Bool} {l : List α} {i : Nat} {x : α} (h : l[i]? = some x) : (l.take (i + 1)).filter t = (l.take i).filter t ++ (if t x = true then [x] else []) := by
  rw [List.take_add_one, h, List.filter_append]
  show _ ++ List.filter t [x] = _
  rw [List.filter_cons, List.filter_nil]
def fullR (r : Rc) : Bool := !r.isEmpty
theorem no_full {fs : List Rc} (h : (fs.filter fullR).isEmpty = true) : fs.flatMap bufs = [] := by
  have e := List.isEmpty_iff.mp h
  rw [List.flatMap_eq_nil_iff]
  intro r hr
  have q := List.filter_eq_nil_iff.mp e r hr
  cases r with
  | nil => rfl
  | cons a r => exact absurd rfl q
theorem fok_more {B : Nat} {fs : List Rc} {r : Rc} (h : FOk B fs) (hr : ROk r) (nd : (bufs r).Nodup) (hb : ∀ i ∈ bufs r, i = B ∨ (i < B ∧ fs.flatMap bufs = [])) : FOk (B + 1) (fs ++ [r]) := by
  have e : (fs ++ [r]).flatMap bufs = fs.flatMap bufs ++ bufs r := by
    rw [List.flatMap_append, List.flatMap_cons, List.flatMap_nil, List.append_nil]
  refine ⟨by rw [List.length_append, h.len]; rfl, ?_, fun i hi => ?_, fun q hq => ?_⟩
  · rw [e]
    refine List.nodup_append.mpr ⟨h.nd, nd, fun a ha b hb' z => ?_⟩
    subst z
    rcases hb a hb' with rfl | ⟨_, z⟩
    · exact absurd (h.lt _ ha) (Nat.lt_irrefl _)
    · rw [z] at ha
      cases ha
  · rw [e] at hi
    rcases List.mem_append.mp hi with hi | hi
    · have := h.lt i hi
      omega
    · rcases hb i hi with rfl | ⟨z, _⟩
      · omega
      · omega
  · rcases List.mem_append.mp hq with hq | hq
    · exact h.each q hq
    · rw [List.mem_singleton.mp hq]
      exact hr
theorem eok_more {B : Nat} {r : Rc} (h : EOk B r) : EOk (B + 1) r := ⟨h.nd, fun i hi => by have := h.lt i hi; omega, h.ok⟩
/-- what may be put into the new buffer -/
def fillsX (n : Nat) : List Rc := [[.b n], [.b n, .s "b"], [.s "a", .b n], []]
theorem fillsX_ok {n : Nat} {r : Rc} (h : r ∈ fillsX n) : ROk r ∧ (bufs r).Nodup ∧ ∀ i ∈ bufs r, i = n := by
  have e : r = [.b n] ∨ r = [.b n, .s "b"] ∨ r = [.s "a", .b n] ∨ r = [] := by
    unfold fillsX at h
    simpa using h
  have low1 : ∀ c ∈ ("a" : Str).cps.toList, 97 ≤ c ∧ c ≤ 122 := by decide
  have low2 : ∀ c ∈ ("b" : Str).cps.toList, 97 ≤ c ∧ c ≤ 122 := by decide
  have nil1 : ∀ x : Nat, ([x] : List Nat).Nodup := fun x => List.pairwise_cons.mpr ⟨fun _ h => (by cases h), List.Pairwise.nil⟩
  rcases e with rfl | rfl | rfl | rfl
  · exact ⟨⟨by simp only [lets, List.map_cons, List.map_nil, Pt.let, List.sum_cons, List.sum_nil] <;> decide, fun q hq => (by rw [List.mem_singleton.mp hq]; trivial), by show 1 ≤ 5; decide⟩, nil1 n, fun i hi => List.mem_singleton.mp hi⟩
  · refine ⟨⟨by simp only [lets, List.map_cons, List.map_nil, Pt.let, List.sum_cons, List.sum_nil] <;> decide, fun q hq => ?_, by show 2 ≤ 5; decide⟩, nil1 n, fun i hi => List.mem_singleton.mp hi⟩
    rcases List.mem_cons.mp hq with rfl | hq
    · trivial
    · rw [List.mem_singleton.mp hq]
      exact low2
  · refine ⟨⟨by simp only [lets, List.map_cons, List.map_nil, Pt.let, List.sum_cons, List.sum_nil] <;> decide, fun q hq => ?_, by show 2 ≤ 5; decide⟩, nil1 n, fun i hi => List.mem_singleton.mp hi⟩
    rcases List.mem_cons.mp hq with rfl | hq
    · exact low1
    · rw [List.mem_singleton.mp hq]
      trivial
  · exact ⟨⟨by decide, fun q hq => (by cases hq), by decide⟩, List.Pairwise.nil, fun i hi => (by cases hi)⟩
theorem two_ok {n : Nat} (h : 1 ≤ n) : ROk [.b n, .s "a", .b 0] ∧ (bufs [.b n, .s "a", .b 0]).Nodup ∧ ∀ i ∈ bufs [.b n, .s "a", .b 0], i = n ∨ i < n := by
  have low1 : ∀ c ∈ ("a" : Str).cps.toList, 97 ≤ c ∧ c ≤ 122 := by decide
  have e : bufs [.b n, .s "a", .b 0] = [n, 0] := rfl
  refine ⟨⟨by simp only [lets, List.map_cons, List.map_nil, Pt.let, List.sum_cons, List.sum_nil] <;> decide, fun q hq => ?_, by show 3 ≤ 5; decide⟩, ?_, fun i hi => ?_⟩
  · rcases List.mem_cons.mp hq with rfl | hq
    · trivial
    rcases List.mem_cons.mp hq with rfl | hq
    · exact low1
    · rw [List.mem_singleton.mp hq]
      trivial
  · rw [e]
    refine List.pairwise_cons.mpr ⟨fun x hx => ?_, List.pairwise_cons.mpr ⟨fun _ h => (by cases h), List.Pairwise.nil⟩⟩
    rw [List.mem_singleton.mp hx]
    omega
  · rw [e] at hi
    rcases List.mem_cons.mp hi with rfl | hi
    · exact .inl rfl
    · rw [List.mem_singleton.mp hi]
      exact .inr h
def nBd : List Str := ["pen", "writer", "more", "rules", "row", "entries", "entry", "fill", "recipe"]
theorem sc_burdened : FnScope nBd ["pen", "writer"] (fnScope st_law_burdened) := fnScope_by (by decide +kernel)
def spBurdened : Sp := fun vs H Q _ => ∃ (p c : Addr) (x : V) (W : Wr) (k S B : Nat), vs = [.ref p, x] ∧ Pen H p c ∧ Tp H x W.d ∧ WOk k S B W ∧ 1 ≤ B ∧ B ≤ 50 ∧ k ≤ 1000 ∧ S ≤ 1000 ∧
  ∀ (W' : Wr) (t : Addr) H', WOk k S (B + 1) W' → (Tight W → Tight W') → Kp p c H H' → Tp H' (.ref t) W'.d → Q (.ref t) H'
section
variable {P : Program} {w : World} {K : PySem.W.Frag} {mg : Str → Option Value} {base : Heap} {f : Addr} {fd : FuncData}
theorem cal_burdened (F : C8.Def K mg "_law_burdened" st_law_burdened f fd) (b : Binds K fd ["pen", "writer"] []) (B : BN2 mg) (Co : Cal P w K mg base 3 "_law_one_of" (spOne K) []) (Cp : Cal P w K mg base 4 "_law_piece" spPiece []) : Cal P w K mg base 5 "_law_burdened" spBurdened [] := by
  refine cal0 F b .nil sc_burdened (fun vs H Q E h => ?_) (fun cdv A outer s H vs Q E hr h => ?_)
  · obtain ⟨p, c, x, W, k, S, B, rfl, _⟩ := h
    rfl
  · obtain ⟨p, c, x, W, kk, S, Bf, rfl, hP, ha, hW, b1, b50, k1000, s1000, k⟩ := h
    obtain ⟨a, vb, vr, ve, rfl, ha1, tb, tr, te⟩ := ha.w_inv
    have tb0 := tb
    obtain ⟨ba, bx, rfl, tb1, tb2⟩ := tb.tup_inv
    obtain ⟨ra, rx, rfl, tr1, tr2⟩ := tr.tup_inv
    have lr : rx.length = W.rules.length := by rw [tr2.len, List.length_map]
    have lb : bx.length = Bf := by rw [tb2.len, List.length_map]; exact hW.b1
    have er := hW.r1
    refine ⟨_, pss_cons (ps_par (i := 2) (j := 3) rfl sc_burdened.nd rfl rfl (by decide) rfl rfl (pa_cons (pe_callB call_len_seq (by rfl) B.len PySem.boot_len (pa_cons (pe_ix ix_tup (pv 1) pe_int (fun _ _ => rfl)) pa_nil)) (pa_cons (pe_lst pa_nil) pa_nil)) (by rfl))
      (pss_cons (ps_for PassesOwn.never rfl (pi_tup (pe_ix ix_tup (pv 1) pe_int (fun _ _ => rfl))) (pg_name (i := 4) sc_burdened.nd rfl (Or.inl rfl))
        (pss_cons (ps_set (i := 5) sc_burdened.nd rfl (Or.inl rfl) (pe_lst pa_nil))
        (pss_cons (ps_for PassesOwn.never rfl (pi_tup (pv 4)) (pg_name (i := 6) sc_burdened.nd rfl (Or.inl rfl))
          (pss_cons (ps_set (i := 7) sc_burdened.nd rfl (Or.inl rfl) (pe_c Co hr (by decide) (by rfl) (pa_cons (pv 0) (pa_cons (pe_lst (pa_cons (pe_tup (pa_cons (pv 2) pa_nil)) (pa_cons (pe_tup (pa_cons (pv 2) (pa_cons pe_str pa_nil))) (pa_cons (pe_tup (pa_cons pe_str (pa_cons (pv 2) pa_nil))) (pa_cons (pe_tup pa_nil) pa_nil))))) pa_nil))))
          (pss_cut (ps_if (PW.pt (pw_and (pt_cmp (pc_notN (pv 6))) (pw_and1 (pt_cmpR (op_eqD hr.units) (pe_lc (own := [("recipe", 8)]) (g := gName 8) (tt := tTest (tOp (rNeD K) (tVar 8) (tTup tNil))) (by rfl) sc_burdened.nd (pi_tup (pe_ix ix_tup (pv 6) pe_int (fun _ _ => rfl)))
              (blkOk_by (own := [("recipe", 8)]) (N := nBd) (sc := fnScope st_law_burdened) (by decide +kernel)) (fun _ _ _ _ _ => pg_name (i := 8) sc_burdened.nd rfl (Or.inl rfl))
              (fun _ _ _ _ _ => pts_one (pt_cmpR (op_neDK K hr.units) (pv 8) (pe_tup pa_nil) (nomark _))) (fun _ _ _ _ _ => pv 8)) (pe_lst pa_nil) (nomark _)))))
            (pss_one (ps_set (i := 7) sc_burdened.nd rfl (Or.inl rfl) (pe_tup (pa_cons (pv 2) (pa_cons pe_str (pa_cons pe_int pa_nil)))))) pss_nil)
          (pss_one (ps_if (pt_cmp (pc_isN (pv 6)))
            (pss_one (ps_expr (pe_bm PySem.F.plainAttrs_list PySem.F.slot_list_append PySem.F.type_list_append mt_append (pv 5) (pa_cons pe_non pa_nil))))
            (pss_one (ps_expr (pe_bm PySem.F.plainAttrs_list PySem.F.slot_list_append PySem.F.type_list_append mt_append (pv 5) (pa_cons (pe_tup (pa_cons (pe_ix ix_tup (pv 6) pe_int (fun _ _ => rfl)) (pa_cons (pe_op op_catA (pe_ix ix_tup (pv 6) pe_int (fun _ _ => rfl)) (pe_tup (pa_cons (pv 7) pa_nil))) pa_nil))) pa_nil)))))))))
        (pss_one (ps_expr (pe_bm PySem.F.plainAttrs_list PySem.F.slot_list_append PySem.F.type_list_append mt_append (pv 3) (pa_cons (pe_callTy call_tuple_of (by rfl) B.tuple (by decide +kernel) (pa_cons (pv 5) pa_nil)) pa_nil)))))))
      (pss_one (ps_ret (pe_tup (pa_cons (pe_op op_catA (pe_ix ix_tup (pv 1) pe_int (fun _ _ => rfl)) (pe_tup (pa_cons (pe_c Cp hr (by decide) (by rfl) (pa_cons (pv 0) (pa_cons pe_int pa_nil))) pa_nil))) (pa_cons (pe_callTy call_tuple_of (by rfl) B.tuple (by decide +kernel) (pa_cons (pv 3) pa_nil)) (pa_cons (pe_ix ix_tup (pv 1) pe_int (fun _ _ => rfl)) pa_nil))))))), ?_⟩
    refine ⟨_, rfl, a, _, _, _, rfl, rfl, SqT.of ha1, atI_nat (j := 0) rfl, ba, _, rfl, .inr (SqT.of tb1), Nat.zero_le _, fun R hR => ⟨_, _, rfl, ?_⟩⟩
    have sR := same_new (o := .lst []) hR
    have R0 : H R = none := hR
    have nRp := hP.ne R0
    rw [lb]
    refine ⟨_, rfl, a, _, _, _, rfl, rfl, SqT.of (sR _ _ ha1), atI_nat (j := 1) rfl, ra, rfl, ⟨_, SqT.of (sR _ _ tr1)⟩, for_tup (K := K) (a := ra) (xs := rx) (fun i σ H' => (∃ v4 v5 v6 v7 : Option V, σ = [some (.ref p), some (.ref a), some (.int Bf), some (.ref R), v4, v5, v6, v7, none]) ∧
      Kp p c H H' ∧ TK H H' ∧ ∃ rows : List (List (Option (Nat × List Rc))), LAt H' R (rows.map rowD) ∧ rows.length = i ∧ ∀ row ∈ rows, row.length = kk ∧ ∀ e ∈ row, EntOk S (Bf + 1) e)
      ⟨⟨_, _, _, _, rfl⟩, (Kp.rfl' hP).new hR, Same.tk sR, [], ⟨[], upd_same, .nil⟩, rfl, fun row h => by cases h⟩ (fun i σ H' _ h => SqT.of (h.2.2.1 _ _ tr1)) ?_ ?_⟩
    · rintro i xr σ H6 hi ⟨⟨v4, v5, v6, v7, rfl⟩, k6, t6, rows, hR6, hrl, hrow⟩
      have ilt : i < W.rules.length := by
        have q := (List.getElem?_eq_some_iff.mp hi).1
        omega
      have hrow0 := List.getElem?_eq_getElem ilt
      obtain ⟨xr', hx', txr⟩ := tr2.at hrow0
      rw [hi] at hx'
      cases hx'
      obtain ⟨rowk, rowe⟩ := hW.r2 _ (List.getElem_mem ilt)
      generalize W.rules[i] = row at *
      obtain ⟨wa, wx, rfl, w1, w2⟩ := txr.tup_inv
      have lw : wx.length = row.length := by rw [w2.len, List.length_map]
      refine ⟨Nat.zero_le _, fun Ea hE => ?_⟩
      have E0 : H Ea = none := k6.free hE
      have nEp := hP.ne E0
      have nRE : R ≠ Ea := by
        obtain ⟨vs, h1, _⟩ := hR6
        exact ne_of_none h1 hE
      refine ⟨_, rfl, wa, rfl, ⟨_, SqT.of (tk_new hE _ _ (t6 _ _ w1))⟩, for_tup (K := K) (a := wa) (xs := wx) (fun j σ H' => (∃ v6 v7 : Option V, σ = [some (.ref p), some (.ref a), some (.int Bf), some (.ref R), some (.ref wa), some (.ref Ea), v6, v7, none]) ∧
        Kp p c H H' ∧ TK H H' ∧ LAt H' R (rows.map rowD) ∧ ∃ es : List (Option (Nat × List Rc)), LAt H' Ea (es.map entD) ∧ es.length = j ∧ ∀ e ∈ es, EntOk S (Bf + 1) e)
        ⟨⟨_, _, rfl⟩, k6.new hE, t6.trans (tk_new hE), hR6.same (same_new hE), [], ⟨[], upd_same, .nil⟩, rfl, fun e h => by cases h⟩ (fun j σ H' _ h => SqT.of (h.2.2.1 _ _ w1)) ?_ ?_⟩
      · rintro j xe σ H7 hj ⟨⟨v6, v7, rfl⟩, k7, t7, hR7, es, hE7, hel, hes⟩
        have jlt : j < row.length := by
          have q := (List.getElem?_eq_some_iff.mp hj).1
          omega
        have hent := List.getElem?_eq_getElem jlt
        obtain ⟨xe', hx', txe⟩ := w2.at hent
        rw [hj] at hx'
        cases hx'
        have eok := rowe _ (List.getElem_mem jlt)
        generalize row[j] = e at *
        -- what is drawn
        refine ⟨_, rfl, _, rfl, (by show 1 ≤ sizeLine; decide), fun f1 hf1 => ⟨_, rfl, (by show 2 ≤ sizeLine; decide), fun f2 hf2 => ⟨_, rfl, (by show 2 ≤ sizeLine; decide), fun f3 hf3 => ⟨Nat.zero_le _, fun f4 hf4 => ⟨(by show 4 ≤ sizeLine; decide), fun fl hfl => ?_⟩⟩⟩⟩⟩
        have g1 := same_new (o := .tup [V.int Bf]) hf1
        have g2 := same_new (o := .tup [V.int Bf, V.str "b"]) hf2
        have g3 := same_new (o := .tup [V.str "a", V.int Bf]) hf3
        have g4 := same_new (o := .tup []) hf4
        have g5 := same_new (o := .lst [V.ref f1, V.ref f2, V.ref f3, V.ref f4]) hfl
        have gA := Same.trans (Same.trans (Same.trans (Same.trans g1 g2) g3) g4) g5
        have z1 := (Same.trans (Same.trans (Same.trans g2 g3) g4) g5) _ _ (upd_same (H := H7) (a := f1) (o := .tup [V.int Bf]))
        have z2 := (Same.trans (Same.trans g3 g4) g5) _ _ (upd_same (a := f2) (o := .tup [V.int Bf, V.str "b"]))
        have z3 := (Same.trans g4 g5) _ _ (upd_same (a := f3) (o := .tup [V.str "a", V.int Bf]))
        have z4 := g5 _ _ (upd_same (a := f4) (o := .tup []))
        have zl := upd_same (H := upd (upd (upd (upd H7 f1 (.tup [V.int Bf])) f2 (.tup [V.int Bf, V.str "b"])) f3 (.tup [V.str "a", V.int Bf])) f4 (.tup [])) (a := fl) (o := .lst [V.ref f1, V.ref f2, V.ref f3, V.ref f4])
        have fl0 : H7 fl = none := (Same.trans (Same.trans (Same.trans g1 g2) g3) g4).free hfl
        generalize upd (upd (upd (upd (upd H7 f1 (.tup [V.int Bf])) f2 (.tup [V.int Bf, V.str "b"])) f3 (.tup [V.str "a", V.int Bf])) f4 (.tup [])) fl (.lst [V.ref f1, V.ref f2, V.ref f3, V.ref f4]) = H8 at gA z1 z2 z3 z4 zl ⊢
        clear g1 g2 g3 g4 g5 hf1 hf2 hf3 hf4 hfl
        have k8 := k7.same gA
        have t8 := t7.trans (Same.tk gA)
        refine ⟨p, c, k8.pen, .inl ⟨fl, _, rfl, k7.pen.ne fl0, SqL.of zl, (by show 0 < 4; decide), (by show 4 < 1000; decide), fun xf H9 hxf k9 => ?_⟩⟩
        have kA := k8.trans k9
        have tk9 := k9.tk k8.pen
        have tA := t8.trans tk9
        obtain ⟨us, hu, au⟩ := (hE7.same gA).kp nEp k8.pen k9
        have hRA := (hR7.same gA).kp nRp k8.pen k9
        have ul : us.length < sizeLine := lt_many (by rw [au.len, List.length_map]; omega)
        obtain ⟨r, hrX, txf⟩ : ∃ r ∈ fillsX Bf, Tp H9 xf r.d := by
          have e4 : xf = .ref f1 ∨ xf = .ref f2 ∨ xf = .ref f3 ∨ xf = .ref f4 := by simpa using hxf
          unfold fillsX
          rcases e4 with rfl | rfl | rfl | rfl
          · exact ⟨_, List.mem_cons_self, tp_rc (tk9 _ _ z1)⟩
          · exact ⟨_, List.mem_cons_of_mem _ List.mem_cons_self, tp_rc (tk9 _ _ z2)⟩
          · exact ⟨_, List.mem_cons_of_mem _ (List.mem_cons_of_mem _ List.mem_cons_self), tp_rc (tk9 _ _ z3)⟩
          · exact ⟨_, List.mem_cons_of_mem _ (List.mem_cons_of_mem _ (List.mem_cons_of_mem _ List.mem_cons_self)), tp_rc (tk9 _ _ z4)⟩
        obtain ⟨rok, rnd, rb⟩ := fillsX_ok hrX
        refine ⟨fun σ H' => ∃ (xf : V) (r : Rc), σ = [some (.ref p), some (.ref a), some (.int Bf), some (.ref R), some (.ref wa), some (.ref Ea), some xe, some xf, none] ∧ Same H9 H' ∧ Tp H' xf r.d ∧ ∀ tg fs, e = some (tg, fs) → FOk (Bf + 1) (fs ++ [r]), ?_, ?_⟩
        · refine ⟨_, rfl, _, rfl, ?_⟩
          cases e with
          | none =>
            obtain rfl := txe.non_inv
            exact iteF' (by rw [decide_eq_true rfl]; rfl) (iteF ⟨xf, r, rfl, Same.refl _, txf, fun tg fs z => by cases z⟩)
          | some y =>
            obtain ⟨tg, fs⟩ := y
            obtain ⟨tlt, fok⟩ := eok tg fs rfl
            obtain ⟨ya, yx, rfl, y1, y2⟩ := (txe.mono tA).tup_inv
            cases y2 with
            | @cons vt x2 _ _ tt h2 =>
            cases h2 with
            | @cons vf x3 _ _ tf h3 =>
            cases h3
            obtain ⟨fa, fx, rfl, q1, q2⟩ := tf.tup_inv
            have lf : fx.length = fs.length := by rw [q2.len, List.length_map]
            have flen := fok.len
            refine iteT' (by rw [decide_eq_false (by intro z; cases z)]; rfl) ?_
            refine ⟨_, rfl, ya, _, _, _, rfl, rfl, SqT.of y1, atI_nat (j := 1) rfl, fa, rfl, ⟨_, SqT.of q1⟩, fun D hD => ?_⟩
            refine lc_tup (K := K) (a := fa) (xs := fx) (fun g H' => Same H9 H' ∧ H9 D = none ∧ LAt H' D (((fs.take g).filter fullR).map Rc.d)) ⟨same_new hD, hD, [], upd_same, .nil⟩ (fun g H' _ h => SqT.of (h.1 _ _ q1)) ?_ ?_
            · rintro g xg H10 hg ⟨s10, D0, zs, hz, az⟩
              have glt : g < fs.length := by
                have q := (List.getElem?_eq_some_iff.mp hg).1
                omega
              have hrec := List.getElem?_eq_getElem glt
              obtain ⟨xg', hx', txg⟩ := q2.at hrec
              rw [hg] at hx'
              cases hx'
              have ro := fok.each _ (List.getElem_mem glt)
              have rlt : ∀ i ∈ bufs fs[g], i < Bf := fun i hi => fok.lt i (List.mem_flatMap.mpr ⟨_, List.getElem_mem glt, hi⟩)
              generalize fs[g] = rr at *
              refine ⟨rfl, _, rfl, Nat.zero_le _, fun e0 he0 => ?_⟩
              have s11 := Same.trans s10 (same_new (o := .tup []) he0)
              have sh : SeqAt.shaped rr.d = true := sh_neat (neat_rc ro rlt (by omega)) (by decide)
              refine ⟨rr.d, .tuple [], (txg.mono (Same.tk s11)).dp, .tup (SqT.of upd_same) .nil, sh, by decide, _, rfl, ?_⟩
              have ev : (!PyData.eqv rr.d (.tuple [])) = fullR rr := by
                unfold fullR Rc.d
                rw [tuple_ne_nil]
                cases rr <;> rfl
              rw [ev, filter_some hrec]
              have hz' : upd H10 e0 (.tup []) D = some (.lst zs) := same_new he0 _ _ hz
              cases hff : fullR rr with
              | true =>
                refine iteT ?_
                refine ⟨_, rfl, zs, hz', lt_many ?_, Same.put s11 D0, D0, ?_⟩
                · rw [az.len, List.length_map]
                  have := List.length_filter_le fullR (fs.take g)
                  rw [List.length_take] at this
                  omega
                · rw [if_pos rfl, List.map_append]
                  exact LAt.push hz' (az.mono (tk_new he0)) (txg.mono (Same.tk s11))
              | false =>
                refine iteF ⟨s11, D0, ?_⟩
                rw [if_neg Bool.false_ne_true, List.append_nil]
                exact LAt.same ⟨zs, hz, az⟩ (same_new he0)
            · rintro H10 ⟨s10, D0, zs, hz, az⟩
              rw [lf, List.take_length] at az
              refine ⟨Nat.zero_le _, fun e0 he0 => ?_⟩
              have s11 := Same.trans s10 (same_new (o := .lst []) he0)
              have hz' : upd H10 e0 (.lst []) D = some (.lst zs) := same_new he0 _ _ hz
              have sh : SeqAt.shaped (.list ((fs.filter fullR).map Rc.d)) = true := sh_neat ((neatAll_map (k := 1) (a := 205) fun q hq => neat_rc (fok.each q (List.mem_filter.mp hq).1) (flat_lt fok.lt (List.mem_filter.mp hq).1) (by omega)).lst) (by decide)
              refine ⟨.list ((fs.filter fullR).map Rc.d), .list [], .lst (SqL.of hz') ((az.mono (tk_new he0)).dp), .lst (SqL.of upd_same) .nil, sh, by decide, _, rfl, ?_⟩
              rw [list_eq_nil]
              have em : ((fs.filter fullR).map Rc.d).isEmpty = (fs.filter fullR).isEmpty := by cases fs.filter fullR <;> rfl
              rw [em]
              cases hf : (fs.filter fullR).isEmpty with
              | true =>
                obtain ⟨o1, o2, o3⟩ := two_ok b1
                refine iteT ⟨_, rfl, (by show 3 ≤ sizeLine; decide), fun t ht => ⟨.ref t, [.b Bf, .s "a", .b 0], rfl, Same.trans s11 (same_new ht), tp_rc upd_same, fun tg' fs' z => ?_⟩⟩
                cases z
                exact fok_more fok o1 o2 fun i hi => (o3 i hi).elim .inl fun z => .inr ⟨z, no_full hf⟩
              | false =>
                refine iteF ⟨xf, r, rfl, s11, txf.mono (Same.tk s11), fun tg' fs' z => ?_⟩
                cases z
                exact fok_more fok rok rnd fun i hi => .inl (rb i hi)
        · rintro σ H10 ⟨xf', r', rfl, s10, txf', fok'⟩
          have hu10 := s10 _ _ hu
          have au10 := au.mono (Same.tk s10)
          have hR10 := hRA.same s10
          have kB := kA.same s10
          have tB := tA.trans (Same.tk s10)
          refine ⟨_, rfl, _, rfl, ?_⟩
          cases e with
          | none =>
            obtain rfl := txe.non_inv
            refine iteT' (decide_eq_true rfl) ⟨_, rfl, .inl ⟨rfl, _, SqL.of hu10⟩, Ea, us, _, rfl, rfl, hu10, ul, ⟨_, _, rfl⟩, kB.put hP E0, tB.trans (tk_lst hu10), hR10.put hu10 nRE, es ++ [none], ?_, ?_, ?_⟩
            · rw [List.map_append]
              exact LAt.push hu10 au10 .non
            · rw [List.length_append, hel]
              rfl
            · intro e hm
              rcases List.mem_append.mp hm with hm | hm
              · exact hes e hm
              · obtain rfl := List.mem_singleton.mp hm
                intro t' fs' he
                cases he
          | some y =>
            obtain ⟨tg, fs⟩ := y
            obtain ⟨tlt, fok⟩ := eok tg fs rfl
            have flen := fok.len
            obtain ⟨ya, yx, rfl, y1, y2⟩ := (txe.mono tB).tup_inv
            cases y2 with
            | @cons vt x2 _ _ tt h2 =>
            cases h2 with
            | @cons vf x3 _ _ tf h3 =>
            cases h3
            obtain rfl := tt.int_inv
            refine iteF' (decide_eq_false (fun z => by cases z)) ?_
            refine ⟨_, rfl, .inl ⟨rfl, _, SqL.of hu10⟩, _, rfl, ya, _, _, _, rfl, rfl, SqT.of y1, atI_nat (j := 0) rfl, _, rfl, ya, _, _, _, rfl, rfl, SqT.of y1, atI_nat (j := 1) rfl, _, rfl, (by show 1 ≤ sizeLine; decide), fun q1 hq1 => ?_⟩
            have sq1 := same_new (o := .tup [xf']) hq1
            refine cat_tp (ds := fs.map Rc.d) (es := [r'.d]) (tf.mono (Same.tk sq1)) (.tup upd_same (.cons (txf'.mono (Same.tk sq1)) .nil)) (by rw [List.length_map]; omega) (by show 1 ≤ 10000; decide) fun v H11 s11 tv => ⟨(by show 2 ≤ sizeLine; decide), fun q2 hq2 => ?_⟩
            have sq2 := Same.trans (Same.trans sq1 s11) (same_new (o := .tup [.int tg, v]) hq2)
            have hu11 := sq2 _ _ hu10
            refine ⟨Ea, us, _, rfl, rfl, hu11, ul, ⟨_, _, rfl⟩, (kB.same sq2).put hP E0, (tB.trans (Same.tk sq2)).trans (tk_lst hu11), (hR10.same sq2).put hu11 nRE, es ++ [some (tg, fs ++ [r'])], ?_, ?_, ?_⟩
            · rw [List.map_append]
              refine LAt.push hu11 (au10.mono (Same.tk sq2)) (.tup upd_same (.cons (.int _) (.cons ?_ .nil)))
              have e2 : fillsD (fs ++ [r']) = .tuple (fs.map Rc.d ++ [r'.d]) := by
                unfold fillsD
                rw [List.map_append]
                rfl
              rw [e2]
              exact tv.mono (tk_new hq2)
            · rw [List.length_append, hel]
              rfl
            · intro e hm
              rcases List.mem_append.mp hm with hm | hm
              · exact hes e hm
              · obtain rfl := List.mem_singleton.mp hm
                intro t' fs' he
                cases he
                exact ⟨tlt, fok' tg fs rfl⟩
      · rintro σ H7 ⟨⟨v6, v7, rfl⟩, k7, t7, hR7, es, hE7, hel, hes⟩
        obtain ⟨us, hu, au⟩ := hE7
        obtain ⟨rs, hr7, ar⟩ := hR7
        refine ⟨_, rfl, .inl ⟨rfl, _, SqL.of hr7⟩, _, rfl, Ea, us, rfl, .inl ⟨SqL.of hu, fun t ht => ?_⟩⟩
        have hr8 := same_new (o := .tup us) ht _ _ hr7
        refine ⟨R, rs, _, rfl, rfl, hr8, lt_many (by rw [ar.len, List.length_map]; omega), ⟨_, _, _, _, rfl⟩, (k7.new ht).put hP R0, (t7.trans (tk_new ht)).trans (tk_lst hr8), rows ++ [es], ?_, ?_, ?_⟩
        · rw [List.map_append]
          exact LAt.push hr8 (ar.mono (tk_new ht)) (.tup upd_same (au.mono (tk_new ht)))
        · rw [List.length_append, hrl]
          rfl
        · intro row hm
          rcases List.mem_append.mp hm with hm | hm
          · exact hrow row hm
          · obtain rfl := List.mem_singleton.mp hm
            exact ⟨by omega, hes⟩
    · rintro σ H6 ⟨⟨v4, v5, v6, v7, rfl⟩, k6, t6, rows, hR6, hrl, hrow⟩
      refine ⟨_, rfl, a, _, _, _, rfl, rfl, SqT.of (t6 _ _ ha1), atI_nat (j := 0) rfl, _, rfl, p, c, 2, rfl, k6.pen, by decide, by decide, fun z H7 _ hz k7 => ⟨(by show 1 ≤ sizeLine; decide), fun q1 hq1 => ?_⟩⟩
      have t7 := t6.trans (k7.tk k6.pen)
      have sq1 := same_new (o := .tup [.str z]) hq1
      have hR7 := (hR6.kp nRp k6.pen k7).same sq1
      refine cat_tp (ds := W.begins.map .str) (es := [.str z]) ((tb0.mono t7).mono (Same.tk sq1)) (.tup upd_same (.cons (.str z) .nil)) (by rw [List.length_map, hW.b1]; omega) (by show 1 ≤ 10000; decide) fun v H8 s8 tv => ?_
      obtain ⟨rs, hr8, ar⟩ := hR7.same s8
      have s18 := Same.trans sq1 s8
      refine ⟨_, rfl, R, rs, rfl, .inl ⟨SqL.of hr8, fun q2 hq2 => ?_⟩⟩
      have s29 := Same.trans s18 (same_new (o := .tup rs) hq2)
      have t9 := t7.trans (Same.tk s29)
      refine ⟨_, rfl, a, _, _, _, rfl, rfl, SqT.of (t9 _ _ ha1), atI_nat (j := 2) rfl, (by show 3 ≤ sizeLine; decide), fun t ht => ?_⟩
      have sT := same_new (o := .tup [v, .ref q2, ve]) ht
      refine k ⟨W.begins ++ [z], rows, W.ends⟩ t _ ⟨?_, fun y hy => ?_, by show rows.length = S; omega, hrow, hW.e1, fun e he q hq => eok_more (hW.e2 e he q hq)⟩ id (((k6.trans k7).same s29).same sT) (.tup upd_same (.cons ?_ (.cons (.tup (xs := rs) ?_ ((ar.mono (tk_new hq2)).mono (tk_new ht))) (.cons ((te.mono t9).mono (tk_new ht)) .nil))))
      · show (W.begins ++ [z]).length = Bf + 1
        rw [List.length_append, hW.b1]
        rfl
      · rcases List.mem_append.mp hy with hy | hy
        · exact hW.b2 y hy
        · rw [List.mem_singleton.mp hy]
          exact hz
      · show Tp _ v (.tuple ((W.begins ++ [z]).map .str))
        rw [List.map_append]
        exact (tv.mono (tk_new hq2)).mono (tk_new ht)
      · exact sT _ _ upd_same
end

/-! ### a writer that may write the same -/
theorem sc_twin : FnScope ["pen", "writer", "option"] ["pen", "writer"] (fnScope st_law_twin) := fnScope_by (by decide +kernel)
def spTwin : Sp := fun vs H Q _ => ∃ (p c : Addr) (x : V) (W : Wr) (k S B : Nat), vs = [.ref p, x] ∧ Pen H p c ∧ Tp H x W.d ∧ WOk k S B W ∧ 1 ≤ S ∧ S ≤ 400 ∧ 1 ≤ B ∧ B ≤ 49 ∧ k ≤ 1000 ∧
  ∀ (W' : Wr) (S' B' : Nat) (v : V) H', 1 ≤ S' → S' ≤ S + 2 → 1 ≤ B' → B' ≤ B + 1 → (S ≤ 4 → S' ≤ 4) → (B ≤ 2 → B' ≤ 2) → WOk k S' B' W' → (Tight W → Tight W') → Kp p c H H' → Tp H' v W'.d → Q v H'
section
variable {P : Program} {w : World} {K : PySem.W.Frag} {mg : Str → Option Value} {base : Heap} {f : Addr} {fd : FuncData}
theorem cal_twin (F : C8.Def K mg "_law_twin" st_law_twin f fd) (b : Binds K fd ["pen", "writer"] []) (B : BN2 mg) (Cd : Cal P w K mg base 2 "_law_draw" spDraw []) (Ce : Cal P w K mg base 2 "_law_exchanged" spExchanged []) (Cb : Cal P w K mg base 3 "_law_doubled" spDoubled []) (Cm : Cal P w K mg base 5 "_law_burdened" spBurdened []) :
    Cal P w K mg base 6 "_law_twin" spTwin [] := by
  refine cal0 F b .nil sc_twin (fun vs H Q E h => ?_) (fun cdv A outer s H vs Q E hr h => ?_)
  · obtain ⟨p, c, x, W, k, S, B, rfl, _⟩ := h
    rfl
  · obtain ⟨p, c, x, W, kk, S, Bf, rfl, hP, ha, hW, s1, s2, b1, b2, k1, k⟩ := h
    refine ⟨_, pss_cons (ps_set (i := 2) sc_twin.nd rfl (Or.inl rfl) (pe_c Cd hr (by decide) (by rfl) (pa_cons (pv 0) (pa_cons pe_int pa_nil))))
      (pss_cons (ps_if (pt_cmpR op_eq (pv 2) pe_int (nomark _)) (pss_one (ps_ret (pe_c Ce hr (by decide) (by rfl) (pa_cons (pv 1) pa_nil)))) pss_nil)
      (pss_cons (ps_if (PW.pt (pw_and (pt_cmpR op_eq (pv 2) pe_int (nomark _)) (pw_and1 (pt_cmpR op_lt (pe_callB call_len_seq (by rfl) B.len PySem.boot_len (pa_cons (pe_ix ix_tup (pv 1) pe_int (fun _ _ => rfl)) pa_nil)) pe_int (nomark _)))))
        (pss_one (ps_ret (pe_c Cb hr (by decide) (by rfl) (pa_cons (pv 0) (pa_cons (pv 1) pa_nil))))) pss_nil)
      (pss_cons (ps_if (PW.pt (pw_and (pt_cmpR op_eq (pv 2) pe_int (nomark _)) (pw_and1 (pt_cmpR op_lt (pe_callB call_len_seq (by rfl) B.len PySem.boot_len (pa_cons (pe_ix ix_tup (pv 1) pe_int (fun _ _ => rfl)) pa_nil)) pe_int (nomark _)))))
        (pss_one (ps_ret (pe_c Cm hr (by decide) (by rfl) (pa_cons (pv 0) (pa_cons (pv 1) pa_nil))))) pss_nil)
      (pss_one (ps_ret (pv 1)))))), ?_⟩
    refine ⟨_, rfl, p, c, 4, rfl, hP, by decide, by decide, fun d H1 d0 d1 k2 => ⟨_, rfl, rfl, _, rfl, ?_⟩⟩
    have tW := ha.mono (k2.tk hP)
    obtain ⟨a, vb, vr, ve, rfl, w1, tb, tr, te⟩ := tW.w_inv
    obtain ⟨ba, bx, rfl, tb1, tb2⟩ := tb.tup_inv
    obtain ⟨ra, rx, rfl, tr1, tr2⟩ := tr.tup_inv
    have lr : rx.length = S := by rw [tr2.len, List.length_map]; exact hW.r1
    have lb : bx.length = Bf := by rw [tb2.len, List.length_map]; exact hW.b1
    have stay : Q (.ref a) H1 := k W S Bf _ _ s1 (by omega) b1 (by omega) id id hW id k2 tW
    refine ite2 (fun _ => ?_) (fun _ => ?_)
    · exact ⟨_, rfl, _, W, kk, S, Bf, rfl, tW, hW, b1, k1, by omega, by omega, fun t H2 s2' t2 => k (exW W) S Bf _ _ s1 (by omega) b1 (by omega) id id (wok_ex hW) tight_ex (k2.same s2') t2⟩
    refine ⟨_, rfl, rfl, _, rfl, ?_⟩
    refine ite2 (fun _ => ?_) (fun _ => ?_)
    · refine ⟨_, rfl, a, _, _, _, rfl, rfl, SqT.of w1, atI_nat (j := 1) rfl, ra, _, rfl, .inr (SqT.of tr1), _, _, rfl, rfl, _, rfl, ?_⟩
      refine ite2 (fun c2 => ?_) (fun c2 => ?_)
      · have c2' := of_decide_eq_true c2
        exact ⟨_, rfl, _, rfl, p, c, _, W, kk, S, Bf, rfl, k2.pen, tW, hW, s1, k1, s2, fun W' t H2 h2 ti k3 t2 => k W' (S + S) Bf _ _ (by omega) (by omega) b1 (by omega) (fun _ => by omega) id h2 ti (k2.trans k3) t2⟩
      · refine ⟨_, rfl, rfl, _, rfl, ?_⟩
        refine ite2 (fun _ => ?_) (fun _ => ?_)
        · refine ⟨_, rfl, a, _, _, _, rfl, rfl, SqT.of w1, atI_nat (j := 0) rfl, ba, _, rfl, .inr (SqT.of tb1), _, _, rfl, rfl, _, rfl, ?_⟩
          refine ite2 (fun c2 => ?_) (fun c2 => ?_)
          · exact ⟨_, rfl, _, rfl, p, c, _, W, kk, S, Bf, rfl, k2.pen, tW, hW, b1, by omega, k1, by omega, fun W' t H2 h2 ti k3 t2 => k W' S (Bf + 1) _ _ s1 (by omega) (by omega) (by omega) id (fun _ => by have := of_decide_eq_true c2; omega) h2 ti (k2.trans k3) t2⟩
          · exact ⟨_, rfl, stay⟩
        · exact iteF ⟨_, rfl, stay⟩
    · refine iteF ⟨_, rfl, rfl, _, rfl, ?_⟩
      refine ite2 (fun _ => ?_) (fun _ => ?_)
      · refine ⟨_, rfl, a, _, _, _, rfl, rfl, SqT.of w1, atI_nat (j := 0) rfl, ba, _, rfl, .inr (SqT.of tb1), _, _, rfl, rfl, _, rfl, ?_⟩
        refine ite2 (fun c2 => ?_) (fun c2 => ?_)
        · exact ⟨_, rfl, _, rfl, p, c, _, W, kk, S, Bf, rfl, k2.pen, tW, hW, b1, by omega, k1, by omega, fun W' t H2 h2 ti k3 t2 => k W' S (Bf + 1) _ _ s1 (by omega) (by omega) (by omega) id (fun _ => by have := of_decide_eq_true c2; omega) h2 ti (k2.trans k3) t2⟩
        · exact ⟨_, rfl, stay⟩
      · exact iteF ⟨_, rfl, stay⟩
end
/-! ### two writers differ at a word -/
def txV : Option Str → V
  | none => .non
  | some z => .str z
theorem Tp.tx_inv {H : Hp} {v : V} {o : Option Str} (h : Tp H v (txtD o)) : v = txV o := by
  cases o with
  | none => exact h.non_inv
  | some z => exact h.str_inv
theorem txV_flat (o : Option Str) : flatV (txV o) = true := by
  cases o <;> rfl

theorem Tp.rc_inv {H : Hp} {v : V} {r : Rc} (h : Tp H v r.d) : ∃ a, v = .ref a ∧ H a = some (.tup (r.map Pt.v)) := by
  obtain ⟨a, xs, rfl, h1, h2⟩ := h.tup_inv
  rw [tpAll_parts h2] at h1
  exact ⟨a, rfl, h1⟩

/-! ### parts of a tuple put together -/
def spNormalT : Sp := fun vs H Q _ => ∃ (a : Addr) (ps : Rc), vs = [.ref a] ∧ H a = some (.tup (ps.map Pt.v)) ∧ ps.length ≤ 1000 ∧ lets ps ≤ 100000 ∧ lowR ps ∧
  ∀ t H', Same H H' → H t = none → H' t = some (.tup ((normal ps).map Pt.v)) → Q (.ref t) H'
section
variable {P : Program} {w : World} {K : PySem.W.Frag} {mg : Str → Option Value} {base : Heap} {f : Addr} {fd : FuncData}
theorem cal_normalT (F : C8.Def K mg "_law_normal" st_law_normal f fd) (b : Binds K fd ["parts"] []) (B : BN2 mg) : Cal P w K mg base 1 "_law_normal" spNormalT [] := by
  refine cal0 F b .nil sc_normal (fun vs H Q E h => ?_) (fun cdv A outer s H vs Q E hr h => ?_)
  · obtain ⟨a, ps, rfl, _⟩ := h
    rfl
  · obtain ⟨a, ps, rfl, hS, hlen, hlets, hlow, k⟩ := h
    refine ⟨_, pss_cons (ps_set (i := 1) sc_normal.nd rfl (Or.inl rfl) (pe_lst pa_nil))
      (pss_cons (ps_for PassesOwn.never rfl (pi_tup (pv 0)) (pg_name (i := 2) sc_normal.nd rfl (Or.inl rfl))
        (pss_one (ps_if (PW.pt (pw_and (pt_val (pe_callB call_isi (by rfl) B.isi (by decide +kernel) (pa_cons (pv 2) (pa_cons (pe_bltn (v := .ty "str") (by rfl) B.str (by decide +kernel) rfl) pa_nil))))
            (pw_and (pt_cmpR (op_neD hr.units) (pv 1) (pe_lst pa_nil) (nomark _)) (pw_and1 (pt_val (pe_callB call_isi (by rfl) B.isi (by decide +kernel) (pa_cons (pe_ix ix_list (pv 1) (pe_un un_neg pe_int) (fun _ _ => rfl)) (pa_cons (pe_bltn (v := .ty "str") (by rfl) B.str (by decide +kernel) rfl) pa_nil))))))))
          (pss_one (ps_asg (pe_op op_add_str (pe_ix ix_list (pv 1) (pe_un un_neg pe_int) (fun _ _ => rfl)) (pv 2)) (pg_sub (pv 1) (pe_un un_neg pe_int) set_list)))
          (pss_one (ps_if (pt_cmpR op_ne (pv 2) pe_str (nomark _)) (pss_one (ps_expr (pe_bm PySem.F.plainAttrs_list PySem.F.slot_list_append PySem.F.type_list_append mt_append (pv 1) (pa_cons (pv 2) pa_nil)))) pss_nil)))))
      (pss_one (ps_ret (pe_callTy call_tuple_of (by rfl) B.tuple (by decide +kernel) (pa_cons (pv 1) pa_nil))))), ?_⟩
    refine ⟨Nat.zero_le _, fun q hq => ?_⟩
    have inv : ∀ i, bufs ((ps.take i).foldl nstep []) = bufs (ps.take i) ∧ lets ((ps.take i).foldl nstep []) ≤ 100000 ∧ ((ps.take i).foldl nstep []).length ≤ 1000 ∧ lowR ((ps.take i).foldl nstep []) := fun i => by
      obtain ⟨h1, h2, h3, h4⟩ := normal_ok (ps.take i) []
      have e : lets ps = lets (ps.take i) + lets (ps.drop i) := by rw [← lets_app, List.take_append_drop]
      refine ⟨h1, ?_, ?_, h4 (fun q hq => by cases hq) fun q hq => hlow q (List.mem_of_mem_take hq)⟩
      · rw [h2]
        show 0 + lets (ps.take i) ≤ 100000
        omega
      · have := List.length_take_le i ps
        simp only [List.length_nil] at h3
        have h5 : (ps.take i).length ≤ ps.length := by rw [List.length_take]; omega
        omega
    refine ⟨_, rfl, a, rfl, ⟨_, SqT.of (show upd H q (.lst []) a = _ by rw [upd_ne (ne_of_none hS hq)]; exact hS)⟩, for_tup (K := K) (a := a) (xs := ps.map Pt.v)
      (fun i σ H' => (∃ v : Option V, σ = [some (.ref a), some (.ref q), v]) ∧ Same H H' ∧ H' q = some (.lst (((ps.take i).foldl nstep []).map Pt.v)))
      ⟨⟨none, rfl⟩, fun b o e => by rw [upd_ne (ne_of_none e hq)]; exact e, upd_same⟩ (fun i σ H' _ h => SqT.of (h.2.1 _ _ hS)) ?_ ?_⟩
    · rintro i x σ H1 hi ⟨⟨v, rfl⟩, s1, hL⟩
      obtain ⟨y, hy, rfl⟩ : ∃ y, ps[i]? = some y ∧ x = Pt.v y := by
        rw [List.getElem?_map] at hi
        cases e : ps[i]? with
        | none =>
          rw [e] at hi
          cases hi
        | some y =>
          rw [e] at hi
          exact ⟨y, rfl, (Option.some.inj hi).symm⟩
      have step := foldl_more nstep [] hy
      obtain ⟨_, v2, v3, v4⟩ := inv i
      have ylow : y.low := hlow y (List.mem_of_getElem? hy)
      generalize hf : (ps.take i).foldl nstep [] = g at *
      rw [step]
      have push : ∀ (H2 : Hp), Same H H2 → H2 q = some (.lst (g.map Pt.v)) → nstep g y = g ++ [y] → (Same H (upd H2 q (.lst (g.map Pt.v ++ [y.v])))) ∧ upd H2 q (.lst (g.map Pt.v ++ [y.v])) q = some (.lst ((nstep g y).map Pt.v)) := fun H2 s2 _ e => by
        refine ⟨fun b o hb => by rw [upd_ne (ne_of_none hb hq)]; exact s2 b o hb, ?_⟩
        rw [upd_same, e, List.map_append]
        rfl
      obtain ⟨ty, tb, t1, t2, t3, t4⟩ := isi_pt (K := K) (H := H1) y
      refine ⟨_, rfl, y.v, _, ty, _, tb, rfl, .ty _, t1, t2, _, rfl, ?_⟩
      cases tb with
      | false =>
        obtain ⟨j, rfl⟩ := t4 rfl
        refine iteF (iteF ?_)
        refine ⟨_, rfl, rfl, _, rfl, ?_⟩
        have ne : (V.int (j : Nat) ≠ V.str "") := fun e => by cases e
        refine iteT' (by show (!decide (V.int (j : Nat) = V.str "")) = true; rw [decide_eq_false ne]; rfl) ?_
        refine ⟨_, rfl, .inl ⟨rfl, _, SqL.of hL⟩, _, rfl, q, _, _, rfl, rfl, hL, ?_, ?_⟩
        · rw [List.length_map]
          exact Nat.lt_of_le_of_lt v3 (by decide)
        · obtain ⟨a1, a2⟩ := push H1 s1 hL rfl
          exact ⟨⟨_, rfl⟩, a1, a2⟩
      | true =>
        obtain ⟨z, rfl⟩ := t3 rfl
        refine iteT ?_
        refine ⟨_, rfl, Nat.zero_le _, fun e he => ?_⟩
        have hL2 : upd H1 e (.lst []) q = some (.lst (g.map Pt.v)) := by
          rw [upd_ne (ne_of_none hL he)]
          exact hL
        have s2 : Same H (upd H1 e (.lst [])) := fun b o hb => by
          rw [upd_ne (ne_of_none (s1 b o hb) he)]
          exact s1 b o hb
        refine ⟨.list (g.map Pt.d), .list [], .lst (SqL.of hL2) (dp_parts g), .lst (SqL.of upd_same) .nil, shaped_parts g v4, by decide, _, rfl, ?_⟩
        rw [list_ne_nil]
        -- the elif: a piece behind no piece
        have elif : nstep g (.s z) = (if z = "" then g else g ++ [.s z]) → (tIfS (tTest (tOp rNe (tVar 2) (tC (.str "")))) (tDrop (tBM K "list" rAppend (tVar 1) (tCons (tVar 2) tNil))) tNext)
            { nx := fun σ H' => (∃ v : Option V, σ = [some (.ref a), some (.ref q), v]) ∧ Same H H' ∧ H' q = some (.lst ((nstep g (.s z)).map Pt.v)), rt := Q, ct := fun σ H' => (∃ v : Option V, σ = [some (.ref a), some (.ref q), v]) ∧ Same H H' ∧ H' q = some (.lst ((nstep g (.s z)).map Pt.v)), bk := fun _ _ => True }
            [some (.ref a), some (.ref q), some (.str z)] (upd H1 e (.lst [])) := fun en => by
          refine ⟨_, rfl, rfl, _, rfl, ?_⟩
          by_cases hz : z = ""
          · subst hz
            refine iteF' (by show (!decide (V.str "" = V.str "")) = false; rw [decide_eq_true rfl]; rfl) ?_
            refine ⟨⟨_, rfl⟩, s2, ?_⟩
            rw [hL2, en, if_pos rfl]
          · have ne : (V.str z ≠ V.str "") := fun e => hz (by injection e)
            refine iteT' (by show (!decide (V.str z = V.str "")) = true; rw [decide_eq_false ne]; rfl) ?_
            refine ⟨_, rfl, .inl ⟨rfl, _, SqL.of hL2⟩, _, rfl, q, _, _, rfl, rfl, hL2, ?_, ?_⟩
            · rw [List.length_map]
              exact Nat.lt_of_le_of_lt v3 (by decide)
            · rw [if_neg hz] at en
              obtain ⟨a1, a2⟩ := push _ s2 hL2 en
              exact ⟨⟨_, rfl⟩, a1, a2⟩
        rcases List.eq_nil_or_concat g with rfl | ⟨g', l, rfl⟩
        · refine iteF (iteF ?_)
          exact elif (nstep_first z)
        · rw [List.concat_eq_append] at *
          have en : (List.map Pt.d (g' ++ [l])).isEmpty = false := by
            rw [List.map_append]
            cases List.map Pt.d g' <;> rfl
          rw [en]
          refine iteT ?_
          have hL3 : upd H1 e (.lst []) q = some (.lst (g'.map Pt.v ++ [l.v])) := by
            rw [hL2, List.map_append]
            rfl
          obtain ⟨ty2, tb2, u1, u2, u3, u4⟩ := isi_pt (K := K) (H := upd H1 e (.lst [])) l
          refine ⟨_, rfl, _, rfl, q, _, _, l.v, rfl, rfl, SqL.of hL3, atI_last _ _, l.v, _, ty2, _, tb2, rfl, .ty _, u1, u2, _, rfl, ?_⟩
          cases tb2 with
          | false =>
            obtain ⟨j, rfl⟩ := u4 rfl
            refine iteF ?_
            exact elif (nstep_behind g' j z)
          | true =>
            obtain ⟨y', rfl⟩ := u3 rfl
            refine iteT ?_
            have hsz : y'.length + z.length ≤ sizeLine := by
              have e1 : lets (g' ++ [.s y']) = lets g' + y'.length := by rw [lets_app, lets_one]; rfl
              have e2 := (inv (i + 1)).2.1
              rw [step, nstep_glue, lets_app, lets_one] at e2
              have e3 : (Pt.s (y' ++ z)).let = y'.length + z.length := len_cat y' z
              exact Nat.le_trans (show y'.length + z.length ≤ 100000 by omega) (by decide)
            refine ⟨_, rfl, _, rfl, q, _, _, .str y', rfl, rfl, SqL.of hL3, atI_last _ _, _, rfl, y', z, rfl, rfl, hsz, _, rfl, _, rfl, q, _, _, g'.length, rfl, rfl, hL3, ?_, ?_⟩
            · rw [List.length_append, List.length_map, List.length_singleton]
              unfold ixN
              rw [if_neg (by omega), if_pos (by omega)]
              exact congrArg some (by omega)
            · refine ⟨⟨_, rfl⟩, fun b o hb => by rw [upd_ne (ne_of_none hb hq)]; exact s2 b o hb, ?_⟩
              rw [upd_same, nstep_glue, List.map_append]
              refine congrArg some (congrArg HO.lst ?_)
              rw [List.set_append_right _ _ (by rw [List.length_map]; exact Nat.le_refl _), List.length_map, Nat.sub_self]
              rfl
    · rintro σ H1 ⟨⟨v, rfl⟩, s1, hL⟩
      rw [List.length_map, List.take_length] at hL
      refine ⟨_, rfl, q, _, rfl, .inl ⟨SqL.of hL, fun t ht => ?_⟩⟩
      refine k t _ (fun b o e => by rw [upd_ne (ne_of_none (s1 b o e) ht)]; exact s1 b o e) (s1.free ht) upd_same
end

/-! ### one row of many exchanged -/
theorem map_putAt {α : Type} {g : α → PyData} {l : List α} {i : Nat} {y : α} : (l.take i ++ [y] ++ l.drop (i + 1)).map g = (l.map g).take i ++ [g y] ++ (l.map g).drop (i + 1) := by
  rw [List.map_append, List.map_append, List.map_take, List.map_drop]
  rfl
theorem putAt_len {α : Type} {l : List α} {i : Nat} {y : α} (h : i < l.length) : (l.take i ++ [y] ++ l.drop (i + 1)).length = l.length := by
  rw [List.length_append, List.length_append, List.length_take, List.length_drop]
  show min i l.length + 1 + (l.length - (i + 1)) = l.length
  omega
theorem putAt_mem {α : Type} {l : List α} {i : Nat} {y z : α} (h : z ∈ l.take i ++ [y] ++ l.drop (i + 1)) : z ∈ l ∨ z = y := by
  rcases List.mem_append.mp h with h | h
  · rcases List.mem_append.mp h with h | h
    · exact .inl (List.mem_of_mem_take h)
    · exact .inr (List.mem_singleton.mp h)
  · exact .inl (List.mem_of_mem_drop h)

/-! ### a writer with one thing changed -/
theorem eok_letter {B : Nat} {r : Rc} (h : EOk B r) (h2 : ROk r) : EOk B (normal (r ++ [Pt.s "a"])) := by
  obtain ⟨n1, n2, n3, n4⟩ := normal_ok (r ++ [Pt.s "a"]) []
  have low1 : ∀ c ∈ ("a" : Str).cps.toList, 97 ≤ c ∧ c ≤ 122 := by decide
  have e1 : bufs (normal (r ++ [Pt.s "a"])) = bufs r := by
    unfold normal
    rw [n1, bufs_app, bufs_one]
    show [] ++ (bufs r ++ []) = bufs r
    rw [List.append_nil, List.nil_append]
  refine ⟨by rw [e1]; exact h.nd, by rw [e1]; exact h.lt, ?_, ?_, ?_⟩
  · have a := h2.lt
    have e : lets (normal (r ++ [Pt.s "a"])) = 0 + lets (r ++ [Pt.s "a"]) := n2
    rw [e, lets_app, lets_one]
    show 0 + (lets r + 1) ≤ 12
    omega
  · exact n4 (fun q hq => by cases hq) (lowR_app h2.low (lowR_one low1))
  · have a := h2.len
    have e : (normal (r ++ [Pt.s "a"])).length ≤ 0 + (r ++ [Pt.s "a"]).length := n3
    rw [List.length_append] at e
    show _ ≤ 6
    have e2 : ([Pt.s "a"] : Rc).length = 1 := rfl
    omega
def nNear : List Str := ["pen", "writer", "begins", "rules", "ends", "state", "option", "buffers", "kind", "row", "entry", "end"]
theorem sc_near : FnScope nNear ["pen", "writer"] (fnScope st_law_near) := fnScope_by (by decide +kernel)
def spNear : Sp := fun vs H Q _ => ∃ (p c : Addr) (x : V) (W : Wr) (k S B : Nat), vs = [.ref p, x] ∧ Pen H p c ∧ Tp H x W.d ∧ WOk k S B W ∧ Tight W ∧ 1 ≤ S ∧ S ≤ 400 ∧ 1 ≤ B ∧ B ≤ 50 ∧ 1 ≤ k ∧ k ≤ 900 ∧
  ∀ (W' : Wr) (v : V) H', WOk k S B W' → Kp p c H H' → Tp H' v W'.d → Q v H'
theorem po_lo {σ : L2.St} {H : Hp} {Q : Option Int → Option Int → Hp → Prop} {l : Option Int} (h : Q l none H) : (fun (l : Option Int) (H2 : Hp) => tNoPart σ H2 fun u H3 => Q l u H3) l H := h
section
variable {P : Program} {w : World} {K : PySem.W.Frag} {mg : Str → Option Value} {base : Heap} {f : Addr} {fd : FuncData}
theorem cal_near (F : C8.Def K mg "_law_near" st_law_near f fd) (b : Binds K fd ["pen", "writer"] []) (B : BN2 mg) (Cd : Cal P w K mg base 2 "_law_draw" spDraw []) (Cp : Cal P w K mg base 4 "_law_piece" spPiece []) (Cf : Cal P w K mg base 6 "_law_fills" spFills [])
    (Ce : Cal P w K mg base 6 "_law_end" spEnd []) (Cn : Cal P w K mg base 1 "_law_normal" spNormalT []) : Cal P w K mg base 7 "_law_near" spNear [] := by
  refine cal0 F b .nil sc_near (fun vs H Q E h => ?_) (fun cdv A outer s H vs Q E hr h => ?_)
  · obtain ⟨p, c, x, W, k, S, B, rfl, _⟩ := h
    rfl
  · obtain ⟨p, c, x, W, kk, S, Bf, rfl, hP, ha, hW, hT, s1, s2, b1, b2, k1, k2, k⟩ := h
    obtain ⟨a, vb, vr, ve, rfl, w1, tb, tr, te⟩ := ha.w_inv
    have tb0 := tb
    have tr0 := tr
    have te0 := te
    obtain ⟨ba, bx, rfl, tb1, tb2⟩ := tb.tup_inv
    obtain ⟨ra, rx, rfl, tr1, tr2⟩ := tr.tup_inv
    obtain ⟨ea, ex, rfl, te1, te2⟩ := te.tup_inv
    have lb : bx.length = Bf := by rw [tb2.len, List.length_map]; exact hW.b1
    have lr : rx.length = S := by rw [tr2.len, List.length_map]; exact hW.r1
    have le : ex.length = S := by rw [te2.len, List.length_map]; exact hW.e1
    refine ⟨_, pss_cons (ps_asg (pv 1) (pg_tup rfl (pgs_cons (pg_name (i := 2) sc_near.nd rfl (Or.inl rfl)) (pgs_cons (pg_name (i := 3) sc_near.nd rfl (Or.inl rfl)) (pgs_cons (pg_name (i := 4) sc_near.nd rfl (Or.inl rfl)) pgs_nil)))))
      (pss_cons (ps_par3 (i := 5) (j := 6) (l := 7) rfl sc_near.nd rfl rfl rfl (by decide) (by decide) (by decide) rfl rfl rfl (pa_cons (pe_c Cd hr (by decide) (by rfl) (pa_cons (pv 0) (pa_cons (pe_callB call_len_seq (by rfl) B.len PySem.boot_len (pa_cons (pv 3) pa_nil)) pa_nil))) (pa_cons (pe_c Cd hr (by decide) (by rfl) (pa_cons (pv 0) (pa_cons pe_int pa_nil))) (pa_cons (pe_callB call_len_seq (by rfl) B.len PySem.boot_len (pa_cons (pv 2) pa_nil)) pa_nil))) (by rfl))
      (pss_cons (ps_if (pt_cmpR op_eq (pv 6) pe_int (nomark _)) (pss_one (ps_ret (pe_tup (pa_cons (pe_op op_catA (pe_tup (pa_cons (pe_c Cp hr (by decide) (by rfl) (pa_cons (pv 0) (pa_cons pe_int pa_nil))) pa_nil)) (pe_slice sl_tupA (pv 2) (po_some pe_int) po_none)) (pa_cons (pv 3) (pa_cons (pv 4) pa_nil)))))) pss_nil)
      (pss_cons (ps_if (pt_cmpR op_lt (pv 6) pe_int (nomark _))
        (pss_cons (ps_par (i := 8) (j := 9) rfl sc_near.nd rfl rfl (by decide) rfl rfl (pa_cons (pe_c Cd hr (by decide) (by rfl) (pa_cons (pv 0) (pa_cons (pe_callB call_len_seq (by rfl) B.len PySem.boot_len (pa_cons (pe_ix ix_tup (pv 3) pe_int (fun _ _ => rfl)) pa_nil)) pa_nil))) (pa_cons (pe_ix ix_tup (pv 3) (pv 5) (fun _ _ => rfl)) pa_nil)) (by rfl))
        (pss_cons (ps_set (i := 10) sc_near.nd rfl (Or.inl rfl) (pe_tup (pa_cons (pe_c Cd hr (by decide) (by rfl) (pa_cons (pv 0) (pa_cons (pe_callB call_len_seq (by rfl) B.len PySem.boot_len (pa_cons (pv 3) pa_nil)) pa_nil))) (pa_cons (pe_c Cf hr (by decide) (by rfl) (pa_cons (pv 0) (pa_cons (pv 7) pa_nil))) pa_nil))))
        (pss_cut (ps_set (i := 9) sc_near.nd rfl (Or.inl rfl) (pe_op op_catA (pe_op op_catA (pe_slice sl_tupA (pv 9) po_none (po_some (pv 8))) (pe_tup (pa_cons (pe_ifExp (pt_cmpR op_eq (pv 6) pe_int (nomark _)) (pv 10) pe_non) pa_nil))) (pe_slice sl_tupA (pv 9) (po_some (pe_op op_add (pv 8) pe_int)) po_none)))
        (pss_one (ps_ret (pe_tup (pa_cons (pv 2) (pa_cons (pe_op op_catA (pe_op op_catA (pe_slice sl_tupA (pv 3) po_none (po_some (pv 5))) (pe_tup (pa_cons (pv 9) pa_nil))) (pe_slice sl_tupA (pv 3) (po_some (pe_op op_add (pv 5) pe_int)) po_none)) (pa_cons (pv 4) pa_nil)))))))))
        pss_nil)
      (pss_cons (ps_set (i := 11) sc_near.nd rfl (Or.inl rfl) (pe_ix ix_tup (pv 4) (pv 5) (fun _ _ => rfl)))
      (pss_cut (ps_set (i := 11) sc_near.nd rfl (Or.inl rfl) (pe_ifExp (PW.pt (pw_or (pt_cmpR op_eq (pv 6) pe_int (nomark _)) (pw_or1 (pt_cmp (pc_isN (pv 11)))))) (pe_c Ce hr (by decide) (by rfl) (pa_cons (pv 0) (pa_cons (pv 7) pa_nil)))
          (pe_c Cn hr (by decide) (by rfl) (pa_cons (pe_op op_catA (pv 11) (pe_tup (pa_cons pe_str pa_nil))) pa_nil))))
      (pss_one (ps_ret (pe_tup (pa_cons (pv 2) (pa_cons (pv 3) (pa_cons (pe_op op_catA (pe_op op_catA (pe_slice sl_tupA (pv 4) po_none (po_some (pv 5))) (pe_tup (pa_cons (pv 11) pa_nil))) (pe_slice sl_tupA (pv 4) (po_some (pe_op op_add (pv 5) pe_int)) po_none)) pa_nil))))))))))), ?_⟩
    refine ⟨_, rfl, a, _, rfl, SqT.of w1, rfl, _, _, rfl, _, _, rfl, _, _, rfl, rfl, ?_⟩
    refine ⟨_, rfl, _, rfl, ra, _, rfl, .inr (SqT.of tr1), p, c, S, (by rw [lr]; rfl), hP, by omega, log_small (by omega) (by omega), fun st H1 st0 st1 ka => ?_⟩
    obtain ⟨stN, rfl⟩ : ∃ stN : Nat, st = (stN : Int) := ⟨st.toNat, by omega⟩
    have hr1 := hW.r1
    have he1 := hW.e1
    have sltr : stN < W.rules.length := by rw [hW.r1]; omega
    have slte : stN < W.ends.length := by rw [hW.e1]; omega
    refine ⟨_, rfl, p, c, 5, rfl, ka.pen, by decide, by decide, fun op H2 op0 op1 kb => ?_⟩
    have kA := ka.trans kb
    have tA : TK H H2 := kA.tk hP
    refine ⟨_, rfl, ba, _, rfl, .inr (SqT.of (tA _ _ tb1)), _, _, _, rfl, ?_⟩
    rw [lb]
    have tbA := tb0.mono tA
    have trA := tr0.mono tA
    have teA := te0.mono tA
    refine ⟨_, rfl, rfl, _, rfl, ?_⟩
    refine ite2 (fun _ => ?_) (fun _ => ?_)
    · refine ⟨_, rfl, p, c, 2, rfl, kA.pen, by decide, by decide, fun z H3 _ hz kc => ⟨(by show 1 ≤ sizeLine; decide), fun q hq => ⟨_, rfl, ((1 : Nat) : Int), rfl, ?_⟩⟩⟩
      have kB := (kA.trans kc).new (o := .tup [.str z]) hq
      have tB : TK H (upd H3 q (.tup [.str z])) := kB.tk hP
      have tq : Tp (upd H3 q (.tup [.str z])) (.ref q) (.tuple [.str z]) := .tup upd_same (.cons (.str z) .nil)
      generalize upd H3 q (.tup [.str z]) = H4 at kB tB tq ⊢
      unfold tNoPart
      refine sl_drop (k := 1) (tb0.mono tB) (by rw [List.length_map, hW.b1]; omega) fun v5 H5 s5 t5 => ?_
      refine cat_tp (tq.mono (Same.tk s5)) t5 (by show 1 ≤ 10000; decide) (by rw [List.length_drop, List.length_map, hW.b1]; omega) fun v6 H6 s6 t6 => ?_
      have s56 := Same.trans s5 s6
      have t06 := tB.trans (Same.tk s56)
      refine ⟨_, rfl, _, rfl, (by show 3 ≤ sizeLine; decide), fun t ht => ?_⟩
      have sT := same_new (o := .tup [v6, .ref ra, .ref ea]) ht
      refine k ⟨z :: W.begins.drop 1, W.rules, W.ends⟩ _ _ ⟨?_, fun y hy => ?_, hW.r1, hW.r2, hW.e1, hW.e2⟩ ((kB.same s56).same sT) (.tup upd_same (.cons ?_ (.cons ((tr0.mono t06).mono (tk_new ht)) (.cons ((te0.mono t06).mono (tk_new ht)) .nil))))
      · show (W.begins.drop 1).length + 1 = Bf
        rw [List.length_drop, hW.b1]
        omega
      · rcases List.mem_cons.mp hy with rfl | hy
        · exact hz
        · exact hW.b2 y (List.mem_of_mem_drop hy)
      · show Tp _ v6 (.tuple (.str z :: (W.begins.drop 1).map .str))
        rw [List.map_drop]
        exact t6.mono (tk_new ht)
    refine ⟨_, rfl, _, _, rfl, rfl, _, rfl, ?_⟩
    refine ite2 (fun _ => ?_) (fun _ => ?_)
    · have er0 := List.getElem?_eq_getElem (show 0 < W.rules.length by omega)
      obtain ⟨rv0, r01, r02⟩ := tr2.at er0
      obtain ⟨ra0, rx0, rfl, r03, r04⟩ := r02.tup_inv
      have l0 : rx0.length = kk := by rw [r04.len, List.length_map]; exact (hW.r2 _ (List.getElem_mem _)).1
      refine ⟨_, rfl, _, rfl, ra, rx, _, _, rfl, rfl, SqT.of (tA _ _ tr1), atI_nat (j := 0) r01, ra0, _, rfl, .inr (SqT.of (tA _ _ r03)), p, c, kk, (by rw [l0]; rfl), kA.pen, by omega, log_small (by omega) (by omega), fun kd H3 kd0 kd1 kc => ?_⟩
      obtain ⟨kdN, rfl⟩ : ∃ kdN : Nat, kd = (kdN : Int) := ⟨kd.toNat, by omega⟩
      have kB := kA.trans kc
      have tB : TK H H3 := kB.tk hP
      have es := List.getElem?_eq_getElem sltr
      obtain ⟨rvs, rs1, rs2⟩ := tr2.at es
      obtain ⟨rows1, rows2⟩ := hW.r2 _ (List.getElem_mem sltr)
      generalize W.rules[stN] = row at *
      refine ⟨_, rfl, _, rfl, ra, rx, _, _, rfl, rfl, SqT.of (tB _ _ tr1), atI_nat rs1, _, _, rfl, ?_⟩
      refine ⟨_, rfl, _, rfl, ra, _, rfl, .inr (SqT.of (tB _ _ tr1)), p, c, S, (by rw [lr]; rfl), kB.pen, by omega, log_small (by omega) (by omega), fun tg H4 tg0 tg1 kc4 => ?_⟩
      obtain ⟨tgN, rfl⟩ : ∃ tgN : Nat, tg = (tgN : Int) := ⟨tg.toNat, by omega⟩
      refine ⟨_, rfl, _, rfl, p, c, Bf, rfl, kc4.pen, by omega, fun fs ft H5 kc5 tf hf => ⟨(by show 2 ≤ sizeLine; decide), fun en hen => ?_⟩⟩
      have kC := (kB.trans (kc4.trans kc5)).new (o := .tup [.int (tgN : Int), .ref ft]) hen
      have tC : TK H (upd H5 en (.tup [.int (tgN : Int), .ref ft])) := kC.tk hP
      have ten : Tp (upd H5 en (.tup [.int (tgN : Int), .ref ft])) (.ref en) (entD (some (tgN, fs))) := .tup upd_same (.cons (.int _) (.cons (tf.mono (tk_new hen)) .nil))
      have eok : EntOk S Bf (some (tgN, fs)) := fun t' fs' e => by cases e; exact ⟨by omega, hf⟩
      generalize upd H5 en (.tup [.int (tgN : Int), .ref ft]) = H6 at kC tC ten ⊢
      have kdlt : kdN < row.length := by rw [rows1]; omega
      refine ⟨fun σ H' => ∃ (rv : V) (e : Option (Nat × List Rc)), σ = [some (.ref p), some (.ref a), some (.ref ba), some (.ref ra), some (.ref ea), some (.int stN), some (.int op), some (.int Bf), some (.int kdN), some rv, some (.ref en), none] ∧ Kp p c H H' ∧ EntOk S Bf e ∧ Tp H' rv (rowD (row.take kdN ++ [e] ++ row.drop (kdN + 1))), ?_, ?_⟩
      · refine ⟨_, rfl, _, rfl, _, rfl, ?_⟩
        refine sl_take (rs2.mono tC) (by rw [List.length_map]; omega) fun v7 H7 s7 t7 => ?_
        have e1 : ((kdN : Int) + 1) = ((kdN + 1 : Nat) : Int) := by omega
        refine ⟨_, rfl, rfl, _, rfl, ?_⟩
        refine ite2 (fun _ => ?_) (fun _ => ?_)
        · refine ⟨_, rfl, (by show 1 ≤ sizeLine; decide), fun q hq => ?_⟩
          have sq := same_new (o := .tup [.ref en]) hq
          refine cat_tp (ds := (row.map entD).take kdN) (es := [entD (some (tgN, fs))]) (t7.mono (Same.tk sq)) (.tup upd_same (.cons ((ten.mono (Same.tk s7)).mono (Same.tk sq)) .nil)) (by rw [List.length_take, List.length_map]; omega) (by show 1 ≤ 10000; decide) fun v8 H8 s8 t8 => ?_
          refine ⟨_, rfl, _, rfl, _, _, rfl, rfl, ((kdN + 1 : Nat) : Int), congrArg V.int e1, ?_⟩
          have s68 := Same.trans (Same.trans s7 sq) s8
          unfold tNoPart
          refine sl_drop (k := kdN + 1) ((rs2.mono tC).mono (Same.tk s68)) (by rw [List.length_map]; omega) fun v9 H9 s9 t9 => ?_
          refine cat_tp (t8.mono (Same.tk s9)) t9 (by rw [List.length_append, List.length_take, List.length_map, List.length_singleton]; omega) (by rw [List.length_drop, List.length_map]; omega) fun v10 H10 s10 t10 => ?_
          refine ⟨v10, (some (tgN, fs)), rfl, kC.same (Same.trans (Same.trans s68 s9) s10), eok, ?_⟩
          unfold rowD
          rw [map_putAt]
          exact t10
        · refine ⟨(by show 1 ≤ sizeLine; decide), fun q hq => ?_⟩
          have sq := same_new (o := .tup [.non]) hq
          refine cat_tp (ds := (row.map entD).take kdN) (es := [entD none]) (t7.mono (Same.tk sq)) (.tup upd_same (.cons ((Tp.non (H := H7)).mono (Same.tk sq)) .nil)) (by rw [List.length_take, List.length_map]; omega) (by show 1 ≤ 10000; decide) fun v8 H8 s8 t8 => ?_
          refine ⟨_, rfl, _, rfl, _, _, rfl, rfl, ((kdN + 1 : Nat) : Int), congrArg V.int e1, ?_⟩
          have s68 := Same.trans (Same.trans s7 sq) s8
          unfold tNoPart
          refine sl_drop (k := kdN + 1) ((rs2.mono tC).mono (Same.tk s68)) (by rw [List.length_map]; omega) fun v9 H9 s9 t9 => ?_
          refine cat_tp (t8.mono (Same.tk s9)) t9 (by rw [List.length_append, List.length_take, List.length_map, List.length_singleton]; omega) (by rw [List.length_drop, List.length_map]; omega) fun v10 H10 s10 t10 => ?_
          refine ⟨v10, none, rfl, kC.same (Same.trans (Same.trans s68 s9) s10), (fun _ _ e => by cases e), ?_⟩
          unfold rowD
          rw [map_putAt]
          exact t10
      · rintro σ H7 ⟨rv, e, rfl, kD, ek, trv⟩
        have tD : TK H H7 := kD.tk hP
        refine ⟨_, rfl, _, rfl, _, rfl, _, rfl, ?_⟩
        refine sl_take (tr0.mono tD) (by rw [List.length_map]; omega) fun v8 H8 s8 t8 => ?_
        have e1 : ((stN : Int) + 1) = ((stN + 1 : Nat) : Int) := by omega
        refine ⟨_, rfl, (by show 1 ≤ sizeLine; decide), fun q hq => ?_⟩
        have sq := same_new (o := .tup [rv]) hq
        refine cat_tp (ds := (W.rules.map rowD).take stN) (es := [rowD (row.take kdN ++ [e] ++ row.drop (kdN + 1))]) (t8.mono (Same.tk sq)) (.tup upd_same (.cons ((trv.mono (Same.tk s8)).mono (Same.tk sq)) .nil)) (by rw [List.length_take, List.length_map]; omega) (by show 1 ≤ 10000; decide) fun v9 H9 s9 t9 => ?_
        refine ⟨_, rfl, _, rfl, _, _, rfl, rfl, ((stN + 1 : Nat) : Int), congrArg V.int e1, ?_⟩
        have s79 := Same.trans (Same.trans s8 sq) s9
        unfold tNoPart
        refine sl_drop (k := stN + 1) ((tr0.mono tD).mono (Same.tk s79)) (by rw [List.length_map]; omega) fun v10 H10 s10 t10 => ?_
        refine cat_tp (t9.mono (Same.tk s10)) t10 (by rw [List.length_append, List.length_take, List.length_map, List.length_singleton]; omega) (by rw [List.length_drop, List.length_map]; omega) fun v11 H11 s11 t11 => ?_
        have s711 := Same.trans (Same.trans s79 s10) s11
        have tE := tD.trans (Same.tk s711)
        refine ⟨_, rfl, (by show 3 ≤ sizeLine; decide), fun t ht => ?_⟩
        have sT := same_new (o := .tup [.ref ba, v11, .ref ea]) ht
        rw [← map_putAt] at t11
        refine k ⟨W.begins, W.rules.take stN ++ [row.take kdN ++ [e] ++ row.drop (kdN + 1)] ++ W.rules.drop (stN + 1), W.ends⟩ _ _ ⟨hW.b1, hW.b2, (putAt_len sltr).trans hW.r1, fun row hrow => ?_, hW.e1, hW.e2⟩ ((kD.same s711).same sT) (.tup upd_same (.cons ((tb0.mono tE).mono (tk_new ht)) (.cons (t11.mono (tk_new ht)) (.cons ((te0.mono tE).mono (tk_new ht)) .nil))))
        rcases putAt_mem hrow with hrow | rfl
        · exact hW.r2 row hrow
        · refine ⟨(putAt_len kdlt).trans rows1, fun y hy => ?_⟩
          rcases putAt_mem hy with hy | rfl
          · exact rows2 y hy
          · exact ek
    · have es := List.getElem?_eq_getElem slte
      obtain ⟨ev, es1, es2⟩ := te2.at es
      refine ⟨_, rfl, _, rfl, ea, ex, _, _, rfl, rfl, SqT.of (tA _ _ te1), atI_nat es1, ?_⟩
      have eok := hW.e2 _ (List.getElem_mem slte)
      have ert := hT _ (List.getElem_mem slte)
      generalize W.ends[stN] = e0 at *
      refine ⟨fun σ H' => ∃ (x : V) (e : Option Rc), σ = [some (.ref p), some (.ref a), some (.ref ba), some (.ref ra), some (.ref ea), some (.int stN), some (.int op), some (.int Bf), none, none, none, some x] ∧ Kp p c H H' ∧ (∀ q, e = some q → EOk Bf q) ∧ Tp H' x (endD e), ?_, ?_⟩
      · have drawn : ∃ (p' c' : Addr) (n : Nat), [V.ref p, .int Bf] = [.ref p', .int n] ∧ Pen H2 p' c' ∧ n ≤ 50 ∧ ∀ (r : Option Rc) (x : V) H', Kp p' c' H2 H' → Tp H' x (endD r) → (∀ q, r = some q → EOk n q ∧ ROk q) →
            ∃ (x' : V) (e : Option Rc), ([some (.ref p), some (.ref a), some (.ref ba), some (.ref ra), some (.ref ea), some (.int stN), some (.int op), some (.int Bf), none, none, none, some x] : L2.St) = [some (.ref p), some (.ref a), some (.ref ba), some (.ref ra), some (.ref ea), some (.int stN), some (.int op), some (.int Bf), none, none, none, some x'] ∧ Kp p c H H' ∧ (∀ q, e = some q → EOk Bf q) ∧ Tp H' x' (endD e) :=
          ⟨p, c, Bf, rfl, kA.pen, b2, fun r x H' kr tx hr => ⟨x, r, rfl, kA.trans kr, fun q e => (hr q e).1, tx⟩⟩
        refine ⟨_, rfl, rfl, _, rfl, ?_⟩
        refine ite2 (fun _ => ?_) (fun _ => ?_)
        · refine iteT ⟨_, rfl, _, rfl, drawn⟩
        · refine ⟨_, rfl, _, rfl, ?_⟩
          cases e0 with
          | none =>
            obtain rfl := (es2.mono tA).non_inv
            exact iteT' (decide_eq_true rfl) ⟨_, rfl, _, rfl, drawn⟩
          | some r =>
            have ne : ev ≠ .non := by
              obtain ⟨ra, rx, rfl, _⟩ := es2.tup_inv
              intro z
              cases z
            refine iteF' (decide_eq_false ne) ?_
            have rok := ert r rfl
            have l5 := rok.len
            refine ⟨_, rfl, (by show 1 ≤ sizeLine; decide), fun q hq => ?_⟩
            have sq := same_new (o := .tup [V.str "a"]) hq
            refine cat_tp (ds := r.map Pt.d) (es := [.str "a"]) ((es2.mono tA).mono (Same.tk sq)) (.tup upd_same (.cons (.str _) .nil)) (by rw [List.length_map]; omega) (by show 1 ≤ 10000; decide) fun v7 H7 s7 t7 => ?_
            have tr7 : Tp H7 v7 (Rc.d (r ++ [Pt.s "a"])) := by
              unfold Rc.d
              rw [List.map_append]
              exact t7
            obtain ⟨va, rfl, hva⟩ := tr7.rc_inv
            have low1 : ∀ c ∈ ("a" : Str).cps.toList, 97 ≤ c ∧ c ≤ 122 := by decide
            refine ⟨va, r ++ [Pt.s "a"], rfl, hva, ?_, ?_, lowR_app rok.low (lowR_one low1), fun t H8 s8 _ ht => ?_⟩
            · rw [List.length_append]
              show r.length + 1 ≤ 1000
              omega
            · have := rok.lt
              rw [lets_app, lets_one]
              show lets r + 1 ≤ 100000
              omega
            · exact ⟨_, some (normal (r ++ [Pt.s "a"])), rfl, kA.same (Same.trans (Same.trans sq s7) s8), fun q e => by cases e; exact eok_letter (eok r rfl) rok, tp_rc ht⟩
      · rintro σ H7 ⟨xv, e, rfl, kD, ek, txv⟩
        have tD : TK H H7 := kD.tk hP
        refine ⟨_, rfl, _, rfl, _, rfl, _, rfl, _, rfl, ?_⟩
        refine sl_take (te0.mono tD) (by rw [List.length_map]; omega) fun v8 H8 s8 t8 => ?_
        have e1 : ((stN : Int) + 1) = ((stN + 1 : Nat) : Int) := by omega
        refine ⟨_, rfl, (by show 1 ≤ sizeLine; decide), fun q hq => ?_⟩
        have sq := same_new (o := .tup [xv]) hq
        refine cat_tp (ds := (W.ends.map endD).take stN) (es := [endD e]) (t8.mono (Same.tk sq)) (.tup upd_same (.cons ((txv.mono (Same.tk s8)).mono (Same.tk sq)) .nil)) (by rw [List.length_take, List.length_map]; omega) (by show 1 ≤ 10000; decide) fun v9 H9 s9 t9 => ?_
        refine ⟨_, rfl, _, rfl, _, _, rfl, rfl, ((stN + 1 : Nat) : Int), congrArg V.int e1, ?_⟩
        have s79 := Same.trans (Same.trans s8 sq) s9
        unfold tNoPart
        refine sl_drop (k := stN + 1) ((te0.mono tD).mono (Same.tk s79)) (by rw [List.length_map]; omega) fun v10 H10 s10 t10 => ?_
        refine cat_tp (t9.mono (Same.tk s10)) t10 (by rw [List.length_append, List.length_take, List.length_map, List.length_singleton]; omega) (by rw [List.length_drop, List.length_map]; omega) fun v11 H11 s11 t11 => ?_
        have s711 := Same.trans (Same.trans s79 s10) s11
        have tE := tD.trans (Same.tk s711)
        refine ⟨(by show 3 ≤ sizeLine; decide), fun t ht => ?_⟩
        have sT := same_new (o := .tup [.ref ba, .ref ra, v11]) ht
        rw [← map_putAt] at t11
        refine k ⟨W.begins, W.rules, W.ends.take stN ++ [e] ++ W.ends.drop (stN + 1)⟩ _ _ ⟨hW.b1, hW.b2, hW.r1, hW.r2, (putAt_len slte).trans hW.e1, fun y hy => ?_⟩ ((kD.same s711).same sT) (.tup upd_same (.cons ((tb0.mono tE).mono (tk_new ht)) (.cons ((tr0.mono tE).mono (tk_new ht)) (.cons (t11.mono (tk_new ht)) .nil))))
        rcases putAt_mem hy with hy | rfl
        · exact hW.e2 y hy
        · exact ek
end

/-! ### two drawn writers -/
def nTwo : List Str := ["pen", "some", "states", "buffers", "kinds", "first", "option", "second"]
theorem sc_two : FnScope nTwo ["pen"] (fnScope st_law_two) := fnScope_by (by decide +kernel)
def spTwo : Sp := fun vs H Q _ => ∃ (p c : Addr), vs = [.ref p] ∧ Pen H p c ∧
  ∀ (W1 W2 : Wr) (k S1 B1 S2 B2 : Nat) (v : V) H', 1 ≤ k → k ≤ 3 → 1 ≤ S1 → S1 ≤ 4 → 1 ≤ B1 → B1 ≤ 2 → 1 ≤ S2 → S2 ≤ 4 → 1 ≤ B2 → B2 ≤ 2 → WOk k S1 B1 W1 → WOk k S2 B2 W2 → Kp p c H H' → Tp H' v (.tuple [W1.d, W2.d]) → Q v H'
def someT : List (Int × Int) := [(1, 1), (2, 1), (3, 1), (1, 2), (2, 1), (3, 1), (1, 2), (2, 2)]
section
variable {P : Program} {w : World} {K : PySem.W.Frag} {mg : Str → Option Value} {base : Heap} {f : Addr} {fd : FuncData}
theorem cal_two (F : C8.Def K mg "_law_two" st_law_two f fd) (b : Binds K fd ["pen"] []) (B : BN2 mg) (Cd : Cal P w K mg base 2 "_law_draw" spDraw []) (Co : Cal P w K mg base 3 "_law_one_of" (spOne K) []) (Cw : Cal P w K mg base 7 "_law_writer" spWriterT [])
    (Cx : Cal P w K mg base 2 "_law_exchanged" spExchanged []) (Ct : Cal P w K mg base 6 "_law_twin" spTwin []) (Cn : Cal P w K mg base 7 "_law_near" spNear []) : Cal P w K mg base 8 "_law_two" spTwo [] := by
  refine cal0 F b .nil sc_two (fun vs H Q E h => ?_) (fun cdv A outer s H vs Q E hr h => ?_)
  · obtain ⟨p, c, rfl, _⟩ := h
    rfl
  · obtain ⟨p, c, rfl, hP, k⟩ := h
    refine ⟨_, pss_cons (ps_set (i := 1) sc_two.nd rfl (Or.inl rfl) (pe_lst (pa_cons (pe_tup (pa_cons pe_int (pa_cons pe_int pa_nil))) (pa_cons (pe_tup (pa_cons pe_int (pa_cons pe_int pa_nil))) (pa_cons (pe_tup (pa_cons pe_int (pa_cons pe_int pa_nil))) (pa_cons (pe_tup (pa_cons pe_int (pa_cons pe_int pa_nil)))
        (pa_cons (pe_tup (pa_cons pe_int (pa_cons pe_int pa_nil))) (pa_cons (pe_tup (pa_cons pe_int (pa_cons pe_int pa_nil))) (pa_cons (pe_tup (pa_cons pe_int (pa_cons pe_int pa_nil))) (pa_cons (pe_tup (pa_cons pe_int (pa_cons pe_int pa_nil))) pa_nil))))))))))
      (pss_cons (ps_asg (pe_c Co hr (by decide) (by rfl) (pa_cons (pv 0) (pa_cons (pv 1) pa_nil))) (pg_tup rfl (pgs_cons (pg_name (i := 2) sc_two.nd rfl (Or.inl rfl)) (pgs_cons (pg_name (i := 3) sc_two.nd rfl (Or.inl rfl)) pgs_nil))))
      (pss_cut (ps_set (i := 4) sc_two.nd rfl (Or.inl rfl) (pe_op op_add pe_int (pe_c Cd hr (by decide) (by rfl) (pa_cons (pv 0) (pa_cons (pe_ifExp (pt_cmpR op_lt (pe_op op_mul (pv 2) (pv 3)) pe_int (nomark _)) pe_int pe_int) pa_nil)))))
      (pss_cons (ps_set (i := 5) sc_two.nd rfl (Or.inl rfl) (pe_c Cw hr (by decide) (by rfl) (pa_cons (pv 0) (pa_cons (pv 4) (pa_cons (pv 2) (pa_cons (pv 3) pa_nil))))))
      (pss_cons (ps_set (i := 6) sc_two.nd rfl (Or.inl rfl) (pe_c Cd hr (by decide) (by rfl) (pa_cons (pv 0) (pa_cons pe_int pa_nil))))
      (pss_cons (ps_if (pt_cmpR op_eq (pv 6) pe_int (nomark _)) (pss_one (ps_ret (pe_tup (pa_cons (pv 5) (pa_cons (pe_c Cw hr (by decide) (by rfl) (pa_cons (pv 0) (pa_cons (pv 4) (pa_cons (pv 2) (pa_cons (pv 3) pa_nil))))) pa_nil))))) pss_nil)
      (pss_cut (ps_set (i := 7) sc_two.nd rfl (Or.inl rfl) (pe_ifExp (pt_cmpR op_eq (pe_op op_mul (pv 2) (pv 3)) pe_int (nomark _)) (pe_c Cx hr (by decide) (by rfl) (pa_cons (pv 5) pa_nil)) (pe_c Ct hr (by decide) (by rfl) (pa_cons (pv 0) (pa_cons (pv 5) pa_nil)))))
      (pss_cons (ps_if (pt_cmpR op_lt (pv 6) pe_int (nomark _)) (pss_one (ps_ret (pe_tup (pa_cons (pv 5) (pa_cons (pv 7) pa_nil))))) pss_nil)
      (pss_one (ps_ret (pe_ifExp (pt_cmpR op_lt (pv 6) pe_int (nomark _)) (pe_tup (pa_cons (pv 5) (pa_cons (pe_c Cn hr (by decide) (by rfl) (pa_cons (pv 0) (pa_cons (pv 7) pa_nil))) pa_nil)))
          (pe_tup (pa_cons (pe_c Cn hr (by decide) (by rfl) (pa_cons (pv 0) (pa_cons (pv 7) pa_nil))) (pa_cons (pv 5) pa_nil))))))))))))), ?_⟩
    have two : (2 : Nat) ≤ sizeLine := by decide
    refine ⟨two, fun t1 h1 => ⟨two, fun t2 h2 => ⟨two, fun t3 h3 => ⟨two, fun t4 h4 => ⟨two, fun t5 h5 => ⟨two, fun t6 h6 => ⟨two, fun t7 h7 => ⟨two, fun t8 h8 => ⟨(by show 8 ≤ sizeLine; decide), fun l hl => ?_⟩⟩⟩⟩⟩⟩⟩⟩⟩
    have g1 := same_new (o := .tup [V.int 1, .int 1]) h1
    have g2 := same_new (o := .tup [V.int 2, .int 1]) h2
    have g3 := same_new (o := .tup [V.int 3, .int 1]) h3
    have g4 := same_new (o := .tup [V.int 1, .int 2]) h4
    have g5 := same_new (o := .tup [V.int 2, .int 1]) h5
    have g6 := same_new (o := .tup [V.int 3, .int 1]) h6
    have g7 := same_new (o := .tup [V.int 1, .int 2]) h7
    have g8 := same_new (o := .tup [V.int 2, .int 2]) h8
    have gl := same_new (o := .lst [V.ref t1, .ref t2, .ref t3, .ref t4, .ref t5, .ref t6, .ref t7, .ref t8]) hl
    have c8 := Same.trans g8 gl
    have c7 := Same.trans g7 c8
    have c6 := Same.trans g6 c7
    have c5 := Same.trans g5 c6
    have c4 := Same.trans g4 c5
    have c3 := Same.trans g3 c4
    have c2 := Same.trans g2 c3
    have c1 := Same.trans g1 c2
    have z1 := c2 _ _ (upd_same (a := t1) (o := .tup [V.int 1, .int 1]))
    have z2 := c3 _ _ (upd_same (a := t2) (o := .tup [V.int 2, .int 1]))
    have z3 := c4 _ _ (upd_same (a := t3) (o := .tup [V.int 3, .int 1]))
    have z4 := c5 _ _ (upd_same (a := t4) (o := .tup [V.int 1, .int 2]))
    have z5 := c6 _ _ (upd_same (a := t5) (o := .tup [V.int 2, .int 1]))
    have z6 := c7 _ _ (upd_same (a := t6) (o := .tup [V.int 3, .int 1]))
    have z7 := c8 _ _ (upd_same (a := t7) (o := .tup [V.int 1, .int 2]))
    have z8 := gl _ _ (upd_same (a := t8) (o := .tup [V.int 2, .int 2]))
    have zl := upd_same (H := upd (upd (upd (upd (upd (upd (upd (upd H t1 (.tup [V.int 1, .int 1])) t2 (.tup [V.int 2, .int 1])) t3 (.tup [V.int 3, .int 1])) t4 (.tup [V.int 1, .int 2])) t5 (.tup [V.int 2, .int 1])) t6 (.tup [V.int 3, .int 1])) t7 (.tup [V.int 1, .int 2])) t8 (.tup [V.int 2, .int 2])) (a := l) (o := .lst [V.ref t1, .ref t2, .ref t3, .ref t4, .ref t5, .ref t6, .ref t7, .ref t8])
    have hPl : l ≠ p := hP.ne ((Same.trans g1 (Same.trans g2 (Same.trans g3 (Same.trans g4 (Same.trans g5 (Same.trans g6 (Same.trans g7 g8))))))).free hl)
    generalize upd (upd (upd (upd (upd (upd (upd (upd (upd H t1 (.tup [V.int 1, .int 1])) t2 (.tup [V.int 2, .int 1])) t3 (.tup [V.int 3, .int 1])) t4 (.tup [V.int 1, .int 2])) t5 (.tup [V.int 2, .int 1])) t6 (.tup [V.int 3, .int 1])) t7 (.tup [V.int 1, .int 2])) t8 (.tup [V.int 2, .int 2])) l (.lst [V.ref t1, .ref t2, .ref t3, .ref t4, .ref t5, .ref t6, .ref t7, .ref t8]) = H1 at *
    clear g1 g2 g3 g4 g5 g6 g7 g8 gl c2 c3 c4 c5 c6 c7 c8 h1 h2 h3 h4 h5 h6 h7 h8 hl
    have kA := (Kp.rfl' hP).same c1
    refine ⟨_, rfl, _, rfl, p, c, kA.pen, .inl ⟨l, _, rfl, hPl, SqL.of zl, (by show 0 < 8; decide), (by show 8 < 1000; decide), fun x H2 hx k2 => ?_⟩⟩
    have tk2 := k2.tk kA.pen
    obtain ⟨a, i, j, rfl, ha, i1, i3, j1, j2⟩ : ∃ (a : Addr) (i j : Nat), x = .ref a ∧ H2 a = some (.tup [V.int i, .int j]) ∧ 1 ≤ i ∧ i ≤ 3 ∧ 1 ≤ j ∧ j ≤ 2 := by
      have e8 : x = .ref t1 ∨ x = .ref t2 ∨ x = .ref t3 ∨ x = .ref t4 ∨ x = .ref t5 ∨ x = .ref t6 ∨ x = .ref t7 ∨ x = .ref t8 := by simpa using hx
      rcases e8 with rfl | rfl | rfl | rfl | rfl | rfl | rfl | rfl
      · exact ⟨t1, 1, 1, rfl, tk2 _ _ z1, by decide, by decide, by decide, by decide⟩
      · exact ⟨t2, 2, 1, rfl, tk2 _ _ z2, by decide, by decide, by decide, by decide⟩
      · exact ⟨t3, 3, 1, rfl, tk2 _ _ z3, by decide, by decide, by decide, by decide⟩
      · exact ⟨t4, 1, 2, rfl, tk2 _ _ z4, by decide, by decide, by decide, by decide⟩
      · exact ⟨t5, 2, 1, rfl, tk2 _ _ z5, by decide, by decide, by decide, by decide⟩
      · exact ⟨t6, 3, 1, rfl, tk2 _ _ z6, by decide, by decide, by decide, by decide⟩
      · exact ⟨t7, 1, 2, rfl, tk2 _ _ z7, by decide, by decide, by decide, by decide⟩
      · exact ⟨t8, 2, 2, rfl, tk2 _ _ z8, by decide, by decide, by decide, by decide⟩
    clear z1 z2 z3 z4 z5 z6 z7 z8 zl hx
    have kB := kA.trans k2
    have ml : ((i : Nat) : Int) ≤ 3 := by omega
    have mul : ∀ Z : Prop, Z → (-(2 ^ 64) < ((i : Nat) : Int) ∧ ((i : Nat) : Int) < 2 ^ 64) := fun _ _ => ⟨by omega, by omega⟩
    refine ⟨a, _, rfl, SqT.of ha, rfl, _, _, rfl, _, _, rfl, rfl, ?_⟩
    refine ⟨fun σ H' => ∃ kk : Nat, σ = [some (.ref p), some (.ref l), some (.int i), some (.int j), some (.int kk), none, none, none] ∧ Kp p c H H' ∧ 1 ≤ kk ∧ kk ≤ 3, ?_, ?_⟩
    · refine ⟨_, rfl, _, rfl, _, rfl, _, _, rfl, rfl, .inl (mul True trivial), _, _, rfl, rfl, _, rfl, ?_⟩
      refine ite2 (fun _ => ?_) (fun _ => ?_)
      · refine ⟨p, c, 3, rfl, kB.pen, by decide, by decide, fun d H3 d0 d1 k3 => ⟨_, _, rfl, rfl, (1 + d).toNat, ?_, kB.trans k3, by omega, by omega⟩⟩
        rw [Int.toNat_of_nonneg (by omega)]
        rfl
      · refine ⟨p, c, 2, rfl, kB.pen, by decide, by decide, fun d H3 d0 d1 k3 => ⟨_, _, rfl, rfl, (1 + d).toNat, ?_, kB.trans k3, by omega, by omega⟩⟩
        rw [Int.toNat_of_nonneg (by omega)]
        rfl
    rintro σ H3 ⟨kk, rfl, kC, kk1, kk3⟩
    refine ⟨_, rfl, _, rfl, _, rfl, _, rfl, p, c, kk, i, j, rfl, kC.pen, by omega, by omega, by omega, by omega, by omega, fun W1 S1 B1 v1 H4 S1a S1b B1a B1b hW1 hT1 k4 tW1 => ?_⟩
    have kD := kC.trans k4
    refine ⟨_, rfl, p, c, 7, rfl, kD.pen, by decide, by decide, fun op H5 op0 op1 k5 => ⟨_, rfl, rfl, _, rfl, ?_⟩⟩
    have kE := kD.trans k5
    have tW5 := tW1.mono (k5.tk kD.pen)
    refine ite2 (fun _ => ?_) (fun _ => ?_)
    · refine ⟨_, rfl, _, rfl, _, rfl, _, rfl, _, rfl, p, c, kk, i, j, rfl, kE.pen, by omega, by omega, by omega, by omega, by omega, fun W2 S2 B2 v2 H6 S2a S2b B2a B2b hW2 hT2 k6 tW2 => ⟨two, fun t ht => ?_⟩⟩
      have tW6 := tW5.mono (k6.tk kE.pen)
      exact k W1 W2 kk S1 B1 S2 B2 _ _ kk1 kk3 S1a (by omega) B1a (by omega) S2a (by omega) B2a (by omega) hW1 hW2 ((kE.trans k6).new ht) (.tup upd_same (.cons (tW6.mono (tk_new ht)) (.cons (tW2.mono (tk_new ht)) .nil)))
    refine ⟨fun σ H' => ∃ (W2 : Wr) (S2 B2 : Nat) (v2 : V), σ = [some (.ref p), some (.ref l), some (.int i), some (.int j), some (.int kk), some (.ref v1), some (.int op), some v2] ∧ Kp p c H H' ∧ Tp H' (.ref v1) W1.d ∧ Tp H' v2 W2.d ∧ WOk kk S2 B2 W2 ∧ Tight W2 ∧ 1 ≤ S2 ∧ S2 ≤ 4 ∧ 1 ≤ B2 ∧ B2 ≤ 2, ?_, ?_⟩
    · refine ⟨_, rfl, _, rfl, _, _, rfl, rfl, .inl (mul True trivial), rfl, _, rfl, ?_⟩
      refine ite2 (fun _ => ?_) (fun _ => ?_)
      · exact ⟨_, rfl, _, W1, kk, S1, B1, rfl, tW5, hW1, B1a, by omega, by omega, by omega, fun t2 H6 s6 tx => ⟨exW W1, S1, B1, _, rfl, kE.same s6, tW5.mono (Same.tk s6), tx, wok_ex hW1, tight_ex hT1, S1a, by omega, B1a, by omega⟩⟩
      · exact ⟨_, rfl, _, rfl, p, c, _, W1, kk, S1, B1, rfl, kE.pen, tW5, hW1, S1a, by omega, B1a, by omega, by omega, fun W2 S2 B2 v2 H6 a1 a2 a3 a4 a5 a6 hW2 ti k6 tx => ⟨W2, S2, B2, v2, rfl, kE.trans k6, tW5.mono (k6.tk kE.pen), tx, hW2, ti hT1, a1, a5 (by omega), a3, a6 (by omega)⟩⟩
    rintro σ H6 ⟨W2, S2, B2, v2, rfl, kF, tA, tB, hW2, hT2, a1, a2, a3, a4⟩
    refine ⟨_, rfl, _, _, rfl, rfl, _, rfl, ?_⟩
    refine ite2 (fun _ => ?_) (fun _ => ?_)
    · refine ⟨_, rfl, _, rfl, two, fun t ht => ?_⟩
      exact k W1 W2 kk S1 B1 S2 B2 _ _ kk1 kk3 S1a (by omega) B1a (by omega) a1 a2 a3 a4 hW1 hW2 (kF.new ht) (.tup upd_same (.cons (tA.mono (tk_new ht)) (.cons (tB.mono (tk_new ht)) .nil)))
    refine ⟨_, rfl, _, _, rfl, rfl, _, rfl, ?_⟩
    refine ite2 (fun _ => ?_) (fun _ => ?_)
    · refine ⟨_, rfl, _, rfl, _, rfl, p, c, v2, W2, kk, S2, B2, rfl, kF.pen, tB, hW2, hT2, a1, by omega, a3, by omega, kk1, by omega, fun W3 v3 H7 hW3 k7 t7 => ⟨two, fun t ht => ?_⟩⟩
      exact k W1 W3 kk S1 B1 S2 B2 _ _ kk1 kk3 S1a (by omega) B1a (by omega) a1 a2 a3 a4 hW1 hW3 ((kF.trans k7).new ht) (.tup upd_same (.cons ((tA.mono (k7.tk kF.pen)).mono (tk_new ht)) (.cons (t7.mono (tk_new ht)) .nil)))
    · refine ⟨_, rfl, _, rfl, p, c, v2, W2, kk, S2, B2, rfl, kF.pen, tB, hW2, hT2, a1, by omega, a3, by omega, kk1, by omega, fun W3 v3 H7 hW3 k7 t7 => ⟨_, rfl, two, fun t ht => ?_⟩⟩
      exact k W3 W1 kk S2 B2 S1 B1 _ _ kk1 kk3 a1 a2 a3 a4 S1a (by omega) B1a (by omega) hW3 hW1 ((kF.trans k7).new ht) (.tup upd_same (.cons (t7.mono (tk_new ht)) (.cons ((tA.mono (k7.tk kF.pen)).mono (tk_new ht)) .nil)))
end

/-! ### a walk over a text -/
theorem for_str {x : Str} {g : TG} {tb : TS} {D : Ends} {σ : L2.St} {H : Hp} (Pv : Nat → L2.St → Hp → Prop) (h0 : Pv 0 σ H)
    (hs : ∀ i c σ H, x.cps.toList[i]? = some c → Pv i σ H → g (.str ⟨#[c]⟩) σ H fun σ2 H2 => tb { D with nx := Pv (i + 1), ct := Pv (i + 1), bk := D.nx } σ2 H2) (hd : ∀ σ H, Pv x.length σ H → D.nx σ H) :
    ∃ W : Nat → Nat → L2.St → Hp → Prop, (∃ m, W 0 m σ H) ∧ ∀ i m σ H, W i m σ H →
      ((Its x).stop i H ∧ D.nx σ H) ∨ ((Its x).go i H ∧ ∃ N : L2.St → Hp → Prop, (∀ σ' H', N σ' H' → ∃ m', m' < m ∧ W (i + 1) m' σ' H') ∧ ∀ v H', (Its x).yld i H v H' → g v σ H' fun σ2 H2 => tb { D with nx := N, ct := N, bk := D.nx } σ2 H2) := by
  refine ⟨fun i m σ H => m = x.length - i ∧ i ≤ x.length ∧ Pv i σ H, ⟨x.length, rfl, Nat.zero_le _, h0⟩, ?_⟩
  rintro i m σ H ⟨em, le, p⟩
  rcases Nat.lt_or_eq_of_le le with lt | eq
  · refine .inr ⟨lt, Pv (i + 1), fun σ' H' p' => ⟨x.length - (i + 1), by omega, rfl, lt, p'⟩, fun v H' y => ?_⟩
    obtain ⟨e, c, hc, ev⟩ := y
    rw [e, ev]
    exact hs i c σ H (by rw [Array.getElem?_toList]; exact hc) p
  · refine .inl ⟨Nat.le_of_eq eq.symm, hd σ H ?_⟩
    rw [← eq]
    exact p

/-! ### texts as numbers by 29 -/
def numL : List Nat → Nat
  | [] => 0
  | c :: r => (c - 96) + 29 * numL r
def lowL (cs : List Nat) : Prop := ∀ c ∈ cs, 97 ≤ c ∧ c ≤ 122
theorem numL_app : ∀ a b : List Nat, numL (a ++ b) = numL a + 29 ^ a.length * numL b
  | [], b => by
    show numL b = 0 + 29 ^ 0 * numL b
    rw [Nat.pow_zero, Nat.one_mul, Nat.zero_add]
  | c :: r, b => by
    show (c - 96) + 29 * numL (r ++ b) = (c - 96) + 29 * numL r + 29 ^ (r.length + 1) * numL b
    rw [numL_app r b, Nat.mul_add, Nat.pow_succ, Nat.mul_comm (29 ^ r.length) 29, Nat.mul_assoc, Nat.add_assoc]
theorem numL_lt : ∀ {cs : List Nat}, lowL cs → numL cs < 29 ^ cs.length
  | [], _ => by decide
  | c :: r, h => by
    have h1 := h c List.mem_cons_self
    have h2 := numL_lt (cs := r) fun x hx => h x (List.mem_cons_of_mem _ hx)
    show (c - 96) + 29 * numL r < 29 ^ (r.length + 1)
    rw [Nat.pow_succ]
    omega
/-- the text of a number of so many digits -/
def textL : Nat → Nat → Option (List Nat)
  | 0, _ => some []
  | k + 1, n => if n = 0 then some [] else if 1 ≤ n % 29 ∧ n % 29 ≤ 26 then (textL k (n / 29)).map fun r => (96 + n % 29) :: r else none
theorem textL_zero : ∀ k : Nat, textL k 0 = some []
  | 0 => rfl
  | _ + 1 => rfl
theorem textL_num : ∀ {cs : List Nat} {k : Nat}, lowL cs → cs.length ≤ k → textL k (numL cs) = some cs
  | [], k, _, _ => textL_zero k
  | c :: r, 0, _, h => absurd h (by simp)
  | c :: r, k + 1, hl, hk => by
    have h1 := hl c List.mem_cons_self
    have h2 := textL_num (cs := r) (k := k) (fun x hx => hl x (List.mem_cons_of_mem _ hx)) (Nat.le_of_succ_le_succ hk)
    have e1 : numL (c :: r) % 29 = c - 96 := by
      show ((c - 96) + 29 * numL r) % 29 = c - 96
      rw [Nat.add_mul_mod_self_left]
      exact Nat.mod_eq_of_lt (by omega)
    have e2 : numL (c :: r) / 29 = numL r := by
      show ((c - 96) + 29 * numL r) / 29 = numL r
      rw [Nat.add_mul_div_left _ _ (by decide), Nat.div_eq_of_lt (by omega), Nat.zero_add]
    have e3 : numL (c :: r) ≠ 0 := by
      show (c - 96) + 29 * numL r ≠ 0
      omega
    unfold textL
    rw [if_neg e3, e1, if_pos ⟨by omega, by omega⟩, e2, h2]
    show some ((96 + (c - 96)) :: r) = some (c :: r)
    rw [show 96 + (c - 96) = c by omega]
/-- more room changes nothing -/
theorem textL_more : ∀ {k n : Nat}, n < 29 ^ k → textL (k + 1) n = textL k n
  | 0, n, h => by
    obtain rfl : n = 0 := by omega
    rfl
  | k + 1, n, h => by
    by_cases h0 : n = 0
    · subst h0
      rw [textL_zero, textL_zero]
    · have q : textL (k + 1) (n / 29) = textL k (n / 29) := textL_more (Nat.div_lt_of_lt_mul (by rw [Nat.pow_succ, Nat.mul_comm] at h; exact h))
      rw [textL, if_neg h0, q]
      conv => rhs; rw [textL, if_neg h0]
theorem numL_take {cs : List Nat} {i : Nat} {c : Nat} (h : cs[i]? = some c) : numL (cs.take (i + 1)) = numL (cs.take i) + 29 ^ i * (c - 96) := by
  have lt : i < cs.length := (List.getElem?_eq_some_iff.mp h).1
  rw [List.take_add_one, h, numL_app, List.length_take, Nat.min_eq_left (Nat.le_of_lt lt)]
  show numL (cs.take i) + 29 ^ i * ((c - 96) + 29 * 0) = _
  rw [Nat.mul_zero, Nat.add_zero]
def spNumbered : Sp := fun vs H Q _ => ∃ z : Str, vs = [.str z] ∧ lowL z.cps.toList ∧ z.length ≤ 100000 ∧ ∀ (t : Addr) H', Same H H' → H' t = some (.tup [.int (numL z.cps.toList : Nat), .int (29 ^ z.length : Nat)]) → Q (.ref t) H'
theorem sc_numbered : FnScope ["text", "number", "size", "letter"] ["text"] (fnScope st_law_numbered) := fnScope_by (by decide +kernel)
section
variable {P : Program} {w : World} {K : PySem.W.Frag} {mg : Str → Option Value} {base : Heap} {f : Addr} {fd : FuncData}
theorem cal_numbered (F : C8.Def K mg "_law_numbered" st_law_numbered f fd) (b : Binds K fd ["text"] []) (Bo : mg "ord" = none) : Cal P w K mg base 1 "_law_numbered" spNumbered [] := by
  refine cal0 F b .nil sc_numbered (fun vs H Q E h => ?_) (fun cdv A outer s H vs Q E hr h => ?_)
  · obtain ⟨z, rfl, _⟩ := h
    rfl
  · obtain ⟨z, rfl, hl, hz, k⟩ := h
    refine ⟨_, pss_cons (ps_asg (pe_tup (pa_cons pe_int (pa_cons pe_int pa_nil))) (pg_tup rfl (pgs_cons (pg_name (i := 1) sc_numbered.nd rfl (Or.inl rfl)) (pgs_cons (pg_name (i := 2) sc_numbered.nd rfl (Or.inl rfl)) pgs_nil))))
      (pss_cons (ps_for PassesOwn.never rfl (pi_str (pv 0)) (pg_name (i := 3) sc_numbered.nd rfl (Or.inl rfl))
        (pss_cons (ps_set (i := 1) sc_numbered.nd rfl (Or.inl rfl) (pe_op op_add (pv 1) (pe_op op_mul (pv 2) (pe_op op_sub (pe_callB call_ord (by rfl) Bo (by decide +kernel) (pa_cons (pv 3) pa_nil)) pe_int))))
        (pss_one (ps_set (i := 2) sc_numbered.nd rfl (Or.inl rfl) (pe_op op_mul (pv 2) pe_int)))))
      (pss_one (ps_ret (pe_tup (pa_cons (pv 1) (pa_cons (pv 2) pa_nil)))))), ?_⟩
    refine ⟨(by show 2 ≤ sizeLine; decide), fun t0 ht0 => ⟨t0, _, rfl, SqT.of upd_same, rfl, _, _, rfl, _, _, rfl, rfl, ?_⟩⟩
    have s0 := same_new (o := .tup [.int 0, .int 1]) ht0
    generalize upd H t0 (.tup [.int 0, .int 1]) = H0 at s0 ⊢
    refine ⟨_, rfl, z, rfl, for_str (x := z) (fun i σ H' => H' = H0 ∧ ∃ v3 : Option V, σ = [some (.str z), some (.int (numL (z.cps.toList.take i) : Nat)), some (.int (29 ^ i : Nat)), v3]) ⟨rfl, _, rfl⟩ ?_ ?_⟩
    · rintro i c σ H1 hc ⟨rfl, v3, rfl⟩
      have c1 := hl c (List.mem_of_getElem? hc)
      refine ⟨_, rfl, _, rfl, _, rfl, _, rfl, rfl, _, _, rfl, rfl, _, _, rfl, rfl, .inr ⟨?_, ?_⟩, _, _, rfl, rfl, _, rfl, _, _, rfl, rfl, .inr ⟨by decide, by decide⟩, rfl, some (.str ⟨#[c]⟩), ?_⟩
      · show -(2 ^ 64) < ((c : Nat) : Int) - 96
        omega
      · show ((c : Nat) : Int) - 96 < 2 ^ 64
        omega
      · have e1 : ((numL (z.cps.toList.take i) : Nat) : Int) + ((29 ^ i : Nat) : Int) * (((c : Nat) : Int) - 96) = ((numL (z.cps.toList.take (i + 1)) : Nat) : Int) := by
          rw [numL_take hc, Int.natCast_add, Int.natCast_mul]
          congr 2
          omega
        have e2 : ((29 ^ i : Nat) : Int) * 29 = ((29 ^ (i + 1) : Nat) : Int) := by
          rw [Nat.pow_succ, Int.natCast_mul]
          rfl
        rw [← e1, ← e2]
        rfl
    · rintro σ H1 ⟨rfl, v3, rfl⟩
      refine ⟨_, rfl, _, rfl, (by show 2 ≤ sizeLine; decide), fun t ht => k t _ (Same.trans s0 (same_new ht)) ?_⟩
      rw [upd_same]
      have e : z.cps.toList.take z.length = z.cps.toList := List.take_of_length_le (by rw [Array.length_toList]; exact Nat.le_refl _)
      rw [e]
end

/-! ### what may be shown, its numbers being great -/
structure Shw (d : PyData) : Prop where
  lay : d.canLay0 = true
  sh : d.showable = true
  dep : d.depth ≤ 50
  fits : d.shown.length ≤ sizeLine
theorem Neat.shw {k n : Nat} {d : PyData} (h : Neat k n d) (hk : k ≤ 50) (hn : n ≤ 1000000) : Shw d := ⟨h.lay, h.sh, Nat.le_trans h.dep hk, h.fits hk hn⟩
theorem log_big {i : Int} (h : i.natAbs < 10 ^ 300) : i.natAbs.log2 < 1920 := by
  by_cases h0 : i.natAbs = 0
  · rw [h0]
    decide
  · rw [Nat.log2_lt h0]
    exact Nat.lt_trans h (by decide +kernel)
theorem short_big {i : Int} (h : i.natAbs < 10 ^ 300) : PyData.intsShort 301 (.int i) = true := by
  simp only [PyData.intsShort, PyData.shown, decide_eq_true_eq]
  exact decide_eq_true (Nat.le_trans (Nat.le_of_eq (str_len _)) (int_text_length_le10 (a := i) (k := 300) (by decide) h))
theorem shw_two {i j : Int} (hi : i.natAbs < 10 ^ 300) (hj : j.natAbs < 10 ^ 300) : Shw (.tuple [.int i, .int j]) := by
  have lay : PyData.canLay0 (.tuple [.int i, .int j]) = true := by simp only [PyData.canLay0, PyData.canLayAll0, Bool.and_self]
  have short : PyData.intsShort 301 (.tuple [.int i, .int j]) = true := by
    have a := short_big hi
    have b := short_big hj
    simp only [PyData.intsShort, PyData.intsShortAll, Bool.and_eq_true] at a b ⊢
    exact ⟨a, b, trivial⟩
  have wt : PyData.weight (.tuple [.int i, .int j]) ≤ 4000 := by
    have a := log_big hi
    have b := log_big hj
    simp only [PyData.weight, PyData.weightAll]
    split <;> split <;> omega
  refine ⟨lay, ?_, by simp only [PyData.depth, PyData.depthAll]; decide, ?_⟩
  · simp only [PyData.showable, PyData.showableAll, Bool.and_eq_true, decide_eq_true_eq]
    exact ⟨log_big hi, log_big hj, trivial⟩
  · have q := PyData.shown_le 301 (by decide) _ (PyData.leavesShort_of_canLay0 301 _ lay short)
    exact Nat.le_trans q (Nat.le_trans (show (301 + 2) * PyData.weight (.tuple [.int i, .int j]) + 301 ≤ 1300000 by omega) (by decide))
def rReprS (K : PySem.W.Frag) : List V → Hp → VK → Prop := fun xs H Q => ∃ (x : V) (d : PyData), xs = [x] ∧ Dp K H x d ∧ Shw d ∧ Q (.str d.shown) H
theorem call_reprS {X : Cx} (hg : X.A.guards = some []) (hu : X.A.units + 64 < cLine) : CallR X (.builtin "repr") (rReprS X.K) := by
  intro pins s σ H xs us Q I rel h
  obtain ⟨x, d, rfl, hd, hn, q⟩ := h
  obtain ⟨u, rfl, ru⟩ := vals1 rel
  obtain ⟨as, rr⟩ := Dp.reads I d x u hd ru
  have dd := hn.dep
  cases hd
  case non =>
    cases ru
    exact PySem.P.repr_of_none ⟨.str _, H, I.tok _, ⟨_, rfl⟩, q⟩
  case bl b =>
    cases ru
    exact PySem.P.repr_of_bool ⟨.str _, H, I.tok _, ⟨_, rfl⟩, q⟩
  case int i =>
    obtain ⟨t, rfl⟩ := ru
    have sh := hn.sh
    simp only [PyData.showable, decide_eq_true_eq] at sh
    exact PySem.P.repr_of_int sh ⟨.str _, H, I.tok _, ⟨_, rfl⟩, q⟩
  case str z =>
    obtain ⟨t, rfl⟩ := ru
    exact PySem.P.repr_of_str ⟨.str _, H, I.tok _, ⟨_, rfl⟩, q⟩ hn.fits
  case lst =>
    cases ru
    exact repr_of_reads' rr hn.sh (PyData.noDict_hsm (PyData.hasDict_of_canLay _ hn.lay)) hg (by omega) (fun _ _ e => e) (fun _ _ _ kk => ⟨.str _, H, I.kept kk, ⟨_, rfl⟩, q⟩) hn.fits
  case tup =>
    cases ru
    exact repr_of_reads' rr hn.sh (PyData.noDict_hsm (PyData.hasDict_of_canLay _ hn.lay)) hg (by omega) (fun _ _ e => e) (fun _ _ _ kk => ⟨.str _, H, I.kept kk, ⟨_, rfl⟩, q⟩) hn.fits
/-! ### defs that show something, called -/
section
open PySem.Spec PyProof.Rows
structure CalG (P : Program) (w : World) (K : PySem.W.Frag) (mg : Str → Option Value) (base : Heap) (k : Nat) (x : Str) (sp : Sp) : Prop where
  ex : ∃ (f : Addr) (fd : FuncData) (ps : List Str), FnG P w K mg base k f fd ps sp ∧ mg x = some (.ref f) ∧ PySem.W.keepIn K (.ref f) = true ∧ Binds K fd ps []
theorem run_g {X : Cx} {k j : Nat} {f : Addr} {fd : FuncData} {ps : List Str} {sp : Sp} {pins : List (Addr × Obj)} {σ : L2.St} {H : Hp} {s : Shared} {Q : VK} {us : List Value} {vs : List V} (F : FnG X.prog X.w X.K X.mg X.base k f fd ps sp) (b : Binds X.K fd ps []) (gu : X.A.guards = some []) (hr : Room j X.A) (hk : k ≤ j)
    (I : Inv X pins σ H s) (r : Vals vs us) (h : sp vs H Q E0) : wpAny (model X.prog X.w) X.A (call (.ref f) us) (EP X pins σ Q) X.xe s := by
  have n : (us ++ []).length = ps.length := by
    rw [List.append_nil, ← r.length]
    exact F.many _ _ _ _ h
  have bt := b s us I.kIn n
  rw [List.append_nil] at bt
  refine wpAny_call (codeAny_mono (F.goes X.A X.stack s H ⟨us, []⟩ us vs Q E0 gu (hr.mono hk) I.env0 bt r h) fun res s' got => ?_)
  match res, got with
  | .error e, got => exact pass0 pins σ H s e s' I got
  | .ok (.ret u), got => exact I.after got
theorem pe_g {X : Cx} {k j : Nat} {x : Str} {sp : Sp} {p pos : Pos} {e : Expr} {es : List Expr} {t : TA} (c : CalG X.prog X.w X.K X.mg X.base k x sp) (gu : X.A.guards = some []) (hr : Room j X.A) (hk : k ≤ j) (hg : Gl X x) (ha : PA X (e :: es) t)
    (hdb : (x == ("__debug__" : Str)) = false := by decide) (he : starEach (e :: es) X.env = (false, eval e X.env) :: starEach es X.env := by rfl) (hpl : (backTo pos (starEach es X.env)).any (·.1) = false := by rfl) :
    PE X (.Call (.Name x p) (e :: es) [] pos) (fun σ H Q => t σ H fun vs H1 => sp vs H1 Q E0) := by
  obtain ⟨f, fd, ps, F, hm, kp, b⟩ := c.ex
  exact ⟨fun pins s σ H Q I h => wpAny_Call_Name_kw (ld_glob I hg hm (PySem.W.callWith_K (h₀ := X.base) I.ok.mod.kin kp (thn (ha.run pos pins s σ H _ I h) fun us s1 ⟨vs, H1, I1, r, q⟩ => ⟨I1.kIn, run_g F b gu hr hk I1 r q⟩) he hpl) hdb)⟩
theorem pe_g0 {X : Cx} {k j : Nat} {x : Str} {sp : Sp} {p pos : Pos} (c : CalG X.prog X.w X.K X.mg X.base k x sp) (gu : X.A.guards = some []) (hr : Room j X.A) (hk : k ≤ j) (hg : Gl X x) (hdb : (x == ("__debug__" : Str)) = false := by decide) :
    PE X (.Call (.Name x p) [] [] pos) (fun _ H Q => sp [] H Q E0) := by
  obtain ⟨f, fd, ps, F, hm, kp, b⟩ := c.ex
  exact ⟨fun pins s σ H Q I h => wpAny_Call_Name_kw (ld_glob I hg hm (PySem.W.callWith_K0 I.kIn kp (run_g (us := []) F b gu hr hk I .nil h)) hdb)⟩
end

/-! ### promises: the number and the size of a text -/
def spNumOf : Sp := fun vs H Q _ => ∃ z : Str, vs = [.str z] ∧ lowL z.cps.toList ∧ z.length ≤ 30000 ∧ ∀ H', Same H H' → Q (.int (numL z.cps.toList : Nat)) H'
def spSizeOf : Sp := fun vs H Q _ => ∃ z : Str, vs = [.str z] ∧ lowL z.cps.toList ∧ z.length ≤ 30000 ∧ ∀ H', Same H H' → Q (.int (29 ^ z.length : Nat)) H'

/-! ### shadows, as the law tells them -/
abbrev Sh := Nat × Bool
def shD (x : Sh) : PyData := .tuple [.int x.1, .bool x.2]
def shOne (z : Str) (x : Sh) : List Sh := [(x.1, x.2), (x.1 * 29 ^ z.length, x.2)] ++ (if x.2 then [] else [(x.1 * numL z.cps.toList, true)])
def shNext (f : List Sh) (z : Str) : List Sh := f.flatMap (shOne z)
def shF (ts : List Str) : List Sh := ts.foldl shNext [(1, false)]
def shadeL (ts : List Str) : List Nat := (shF ts).map (·.1)
theorem shNext_take {f : List Sh} {z : Str} {i : Nat} {x : Sh} (h : f[i]? = some x) : shNext (f.take (i + 1)) z = shNext (f.take i) z ++ shOne z x := by
  unfold shNext
  rw [List.take_add_one, h, List.flatMap_append]
  show _ ++ List.flatMap _ [x] = _
  rw [List.flatMap_cons, List.flatMap_nil, List.append_nil]
theorem shOne_len (z : Str) (x : Sh) : (shOne z x).length ≤ 3 := by
  unfold shOne
  cases x.2 <;> simp
theorem shNext_len (z : Str) : ∀ f : List Sh, (shNext f z).length ≤ 3 * f.length
  | [] => Nat.le_refl _
  | x :: f => by
    have a := shOne_len z x
    have b := shNext_len z f
    show (List.flatMap (shOne z) (x :: f)).length ≤ 3 * (f.length + 1)
    rw [List.flatMap_cons, List.length_append]
    have c : (List.flatMap (shOne z) f).length ≤ 3 * f.length := b
    omega
/-- so many parts, each so small -/
structure ShOk (k L : Nat) (f : List Sh) : Prop where
  len : f.length ≤ 3 ^ k
  lt : ∀ x ∈ f, x.1 < 2 ^ (5 * L + 1)
theorem pow29 (n : Nat) : 29 ^ n ≤ 2 ^ (5 * n) := by
  rw [Nat.pow_mul]
  exact Nat.pow_le_pow_left (by decide) n
theorem shOne_lt {z : Str} {x : Sh} {L : Nat} (hz : lowL z.cps.toList) (h : x.1 < 2 ^ (5 * L + 1)) : ∀ y ∈ shOne z x, y.1 < 2 ^ (5 * (L + z.length) + 1) := by
  have e : 5 * (L + z.length) + 1 = (5 * L + 1) + 5 * z.length := by omega
  have p := pow29 z.length
  have n := numL_lt hz
  rw [Array.length_toList] at n
  have n' : numL z.cps.toList ≤ 2 ^ (5 * z.length) := Nat.le_trans (Nat.le_of_lt n) p
  have pos : 0 < 2 ^ (5 * z.length) := Nat.pow_pos (by decide)
  have up : ∀ m, m ≤ 2 ^ (5 * z.length) → x.1 * m < 2 ^ (5 * (L + z.length) + 1) := fun m hm => by
    rw [e, Nat.pow_add]
    exact Nat.lt_of_le_of_lt (Nat.mul_le_mul_left _ hm) ((Nat.mul_lt_mul_right pos).mpr h)
  have one : x.1 < 2 ^ (5 * (L + z.length) + 1) := by
    have q := up 1 pos
    rw [Nat.mul_one] at q
    exact q
  intro y hy
  unfold shOne at hy
  rcases List.mem_append.mp hy with hy | hy
  · rcases List.mem_cons.mp hy with rfl | hy
    · exact one
    · rw [List.mem_singleton.mp hy]
      exact up _ p
  · cases hb : x.2 with
    | true =>
      rw [hb, if_pos rfl] at hy
      cases hy
    | false =>
      rw [hb, if_neg Bool.false_ne_true] at hy
      rw [List.mem_singleton.mp hy]
      exact up _ n'
theorem shNext_ok {k L : Nat} {f : List Sh} {z : Str} (h : ShOk k L f) (hz : lowL z.cps.toList) : ShOk (k + 1) (L + z.length) (shNext f z) := by
  refine ⟨?_, fun y hy => ?_⟩
  · have a := shNext_len z f
    have b := h.len
    rw [Nat.pow_succ]
    omega
  · obtain ⟨x, hx, hy⟩ := List.mem_flatMap.mp hy
    exact shOne_lt hz (h.lt x hx) y hy
def totL (ts : List Str) : Nat := (ts.map (·.length)).sum
def spShade : Sp := fun vs H Q _ => ∃ (x : V) (d : PyData) (ts : List Str), vs = [x] ∧ Tp H x (.tuple [d, .tuple (ts.map .str)]) ∧ (∀ z ∈ ts, lowL z.cps.toList) ∧ ts.length ≤ 3 ∧ totL ts ≤ 30000 ∧
  ∀ (t : Addr) H', Same H H' → H' t = some (.lst ((shadeL ts).map fun (n : Nat) => V.int n)) → Q (.ref t) H'
def nShade : List Str := ["situation", "found", "text", "number", "size", "longer", "amount", "has_number"]
theorem sc_shade : FnScope nShade ["situation"] (fnScope st_law_shade) := fnScope_by (by decide +kernel)
theorem totL_take {ts : List Str} {i : Nat} {z : Str} (h : ts[i]? = some z) : totL (ts.take (i + 1)) = totL (ts.take i) + z.length := by
  unfold totL
  rw [List.take_add_one, h, List.map_append, List.sum_append]
  show _ + ([z].map (·.length)).sum = _
  rw [List.map_cons, List.map_nil, List.sum_cons, List.sum_nil, Nat.add_zero]
theorem totL_take_le (ts : List Str) (i : Nat) : totL (ts.take i) ≤ totL ts := by
  have e : ts.take i ++ ts.drop i = ts := List.take_append_drop i ts
  have q : totL ts = totL (ts.take i) + totL (ts.drop i) := by
    unfold totL
    rw [← List.sum_append, ← List.map_append, e]
  omega
theorem totL_mem {ts : List Str} {z : Str} (h : z ∈ ts) : z.length ≤ totL ts := by
  unfold totL
  induction ts with
  | nil => cases h
  | cons a r ih =>
    rw [List.map_cons, List.sum_cons]
    rcases List.mem_cons.mp h with rfl | h
    · omega
    · have := ih h
      omega
section
variable {P : Program} {w : World} {K : PySem.W.Frag} {mg : Str → Option Value} {base : Heap} {f : Addr} {fd : FuncData}
theorem cal_shade (F : C8.Def K mg "_law_shade" st_law_shade f fd) (b : Binds K fd ["situation"] []) (Cm : Cal P w K mg base 1 "_law_numbered" spNumbered []) : Cal P w K mg base 2 "_law_shade" spShade [] := by
  refine cal0 F b .nil sc_shade (fun vs H Q E h => ?_) (fun cdv A outer s H vs Q E hr h => ?_)
  · obtain ⟨x, d, ts, rfl, _⟩ := h
    rfl
  · obtain ⟨x, d, ts, rfl, hx, low, len3, tt, k⟩ := h
    obtain ⟨a, xs, rfl, h1, h2⟩ := hx.tup_inv
    cases h2 with
    | @cons v1 x2 _ _ td h3 =>
    cases h3 with
    | @cons v2 x3 _ _ tx h4 =>
    cases h4
    obtain ⟨ta, tv, rfl, h5, h6⟩ := tx.tup_inv
    obtain rfl := tpAll_strs h6
    refine ⟨_, pss_cons (ps_set (i := 1) sc_shade.nd rfl (Or.inl rfl) (pe_lst (pa_cons (pe_tup (pa_cons pe_int (pa_cons pe_bl pa_nil))) pa_nil)))
      (pss_cons (ps_for PassesOwn.never rfl (pi_tup (pe_ix ix_tup (pv 0) pe_int (fun _ _ => rfl))) (pg_name (i := 2) sc_shade.nd rfl (Or.inl rfl))
        (pss_cons (ps_asg (pe_c Cm hr (by decide) (by rfl) (pa_cons (pv 2) pa_nil)) (pg_tup rfl (pgs_cons (pg_name (i := 3) sc_shade.nd rfl (Or.inl rfl)) (pgs_cons (pg_name (i := 4) sc_shade.nd rfl (Or.inl rfl)) pgs_nil))))
        (pss_cons (ps_set (i := 5) sc_shade.nd rfl (Or.inl rfl) (pe_lst pa_nil))
        (pss_cons (ps_for PassesOwn.never rfl (pi_list (pv 1)) (pg_tup rfl (pgs_cons (pg_name (i := 6) sc_shade.nd rfl (Or.inl rfl)) (pgs_cons (pg_name (i := 7) sc_shade.nd rfl (Or.inl rfl)) pgs_nil)))
          (pss_cons (ps_expr (pe_bm PySem.F.plainAttrs_list PySem.F.slot_list_extend PySem.F.type_list_extend mt_extend (pv 5) (pa_cons (pe_lst (pa_cons (pe_tup (pa_cons (pv 6) (pa_cons (pv 7) pa_nil))) (pa_cons (pe_tup (pa_cons (pe_op op_mulW (pv 6) (pv 4)) (pa_cons (pv 7) pa_nil))) pa_nil))) pa_nil)))
          (pss_one (ps_if (pt_not (pt_val (pv 7))) (pss_one (ps_expr (pe_bm PySem.F.plainAttrs_list PySem.F.slot_list_append PySem.F.type_list_append mt_append (pv 5) (pa_cons (pe_tup (pa_cons (pe_op op_mulW (pv 6) (pv 3)) (pa_cons pe_bl pa_nil))) pa_nil)))) pss_nil))))
        (pss_one (ps_set (i := 1) sc_shade.nd rfl (Or.inl rfl) (pv 5)))))))
      (pss_one (ps_ret (pe_lc (own := [("amount", 6), ("has_number", 7)]) (g := gTup K 2 (gCons (gName 6) (gCons (gName 7) gNil))) (tt := tYes) (by rfl) sc_shade.nd (pi_list (pv 1))
        (blkOk_by (own := [("amount", 6), ("has_number", 7)]) (N := nShade) (sc := fnScope st_law_shade) (by decide +kernel)) (fun _ _ _ _ _ => pg_tupK K rfl (pgs_cons (pg_name (i := 6) sc_shade.nd rfl (Or.inl rfl)) (pgs_cons (pg_name (i := 7) sc_shade.nd rfl (Or.inl rfl)) pgs_nil))) (fun _ _ _ _ _ => pts_nil)
        (fun _ _ _ _ _ => pv 6))))), ?_⟩
    have ok : ∀ i ≤ ts.length, ShOk i (totL (ts.take i)) (shF (ts.take i)) := by
      intro i
      induction i with
      | zero => exact fun _ => ⟨Nat.le_refl _, fun y hy => by rw [List.mem_singleton.mp hy]; show (1 : Nat) < 2 ^ (5 * 0 + 1); decide⟩
      | succ i ih =>
        intro hi
        have e := List.getElem?_eq_getElem (show i < ts.length from hi)
        have q := shNext_ok (ih (Nat.le_of_succ_le hi)) (low _ (List.getElem_mem hi))
        rw [totL_take e]
        unfold shF
        rw [foldl_more shNext [(1, false)] e]
        exact q
    refine ⟨(by show 2 ≤ sizeLine; decide), fun t0 ht0 => ⟨(by show 1 ≤ sizeLine; decide), fun F0 hF0 => ?_⟩⟩
    have s0 := Same.trans (same_new (o := .tup [V.int 1, .bl false]) ht0) (same_new (o := .lst [V.ref t0]) hF0)
    have L0 : LAt (upd (upd H t0 (.tup [V.int 1, .bl false])) F0 (.lst [V.ref t0])) F0 (([(1, false)] : List Sh).map shD) := ⟨_, upd_same, .cons (.tup (same_new hF0 _ _ upd_same) (.cons (.int _) (.cons (.bl _) .nil))) .nil⟩
    generalize upd (upd H t0 (.tup [V.int 1, .bl false])) F0 (.lst [V.ref t0]) = H0 at s0 L0 ⊢
    clear ht0 hF0
    refine ⟨_, rfl, a, _, _, _, rfl, rfl, SqT.of (s0 _ _ h1), atI_nat (j := 1) rfl, ta, rfl, ⟨_, SqT.of (s0 _ _ h5)⟩, for_tup (K := K) (a := ta) (xs := ts.map V.str) (fun i σ H' => Same H H' ∧ ∃ (Fd : Addr) (v2 v3 v4 v5 v6 v7 : Option V), σ = [some (.ref a), some (.ref Fd), v2, v3, v4, v5, v6, v7] ∧ LAt H' Fd ((shF (ts.take i)).map shD))
      ⟨s0, F0, _, _, _, _, _, _, rfl, L0⟩ (fun i σ H' _ h => SqT.of (h.1 _ _ h5)) ?_ ?_⟩
    · rintro i x σ H1 hi ⟨s1, Fd, v2, v3, v4, v5, v6, v7, rfl, us, hu, au⟩
      obtain ⟨z, hz, rfl⟩ : ∃ z, ts[i]? = some z ∧ x = V.str z := by
        rw [List.getElem?_map] at hi
        cases e : ts[i]? with
        | none =>
          rw [e] at hi
          cases hi
        | some y =>
          rw [e] at hi
          exact ⟨y, rfl, (Option.some.inj hi).symm⟩
      have ilt : i < ts.length := (List.getElem?_eq_some_iff.mp hz).1
      have zm := List.mem_of_getElem? hz
      have zl := low z zm
      have zt := totL_mem zm
      have fok := ok i (Nat.le_of_lt ilt)
      have nx : shF (ts.take (i + 1)) = shNext (shF (ts.take i)) z := foldl_more shNext [(1, false)] hz
      have tl := totL_take_le ts i
      have p27 : 3 ^ i ≤ 9 := Nat.pow_le_pow_right (n := 3) (by decide) (show i ≤ 2 by omega)
      generalize shF (ts.take i) = ff at *
      have flen : ff.length ≤ 9 := Nat.le_trans fok.len p27
      have ul : us.length = ff.length := by rw [au.len, List.length_map]
      have zn := numL_lt zl
      rw [Array.length_toList] at zn
      have zp := pow29 z.length
      have zn2 : numL z.cps.toList < 2 ^ (5 * z.length + 1) := Nat.lt_of_lt_of_le zn (Nat.le_trans zp (Nat.pow_le_pow_right (by decide) (by omega)))
      have zp2 : 29 ^ z.length < 2 ^ (5 * z.length + 1) := Nat.lt_of_le_of_lt zp (Nat.pow_lt_pow_right (by decide) (by omega))
      refine ⟨_, rfl, z, rfl, zl, by omega, fun q H2 s2 hq => ⟨q, _, rfl, SqT.of hq, rfl, _, _, rfl, _, _, rfl, rfl, Nat.zero_le _, fun L hL => ?_⟩⟩
      have s12 := Same.trans s2 (same_new (o := .lst []) hL)
      refine ⟨_, rfl, Fd, rfl, ⟨_, SqL.of (s12 _ _ hu)⟩, for_list (K := K) (a := Fd) (xs := us) (fun j σ H' => Same H2 H' ∧ H2 L = none ∧ (∃ v6 v7 : Option V, σ = [some (.ref a), some (.ref Fd), some (.str z), some (.int (numL z.cps.toList : Nat)), some (.int (29 ^ z.length : Nat)), some (.ref L), v6, v7]) ∧ LAt H' L ((shNext (ff.take j) z).map shD))
        ⟨same_new hL, hL, ⟨_, _, rfl⟩, [], upd_same, .nil⟩ (fun j σ H' _ h => SqL.of (h.1 _ _ (s2 _ _ hu))) ?_ ?_⟩
      · rintro j y σ H3 hj ⟨s3, L0', ⟨v6, v7, rfl⟩, ws, hw, aw⟩
        have jlt : j < ff.length := by
          have q := (List.getElem?_eq_some_iff.mp hj).1
          omega
        have hff := List.getElem?_eq_getElem jlt
        obtain ⟨y', hy', ty⟩ := au.at hff
        rw [hj] at hy'
        cases hy'
        have small := fok.lt _ (List.getElem_mem jlt)
        generalize ff[j] = pr at *
        obtain ⟨m, bb⟩ := pr
        obtain ⟨ya, yx, rfl, y1, y2⟩ := (ty.mono (Same.tk (Same.trans s2 s3))).tup_inv
        cases y2 with
        | @cons w1 x2 _ _ tm h3 =>
        cases h3 with
        | @cons w2 x3 _ _ tbb h4 =>
        cases h4
        obtain rfl := tm.int_inv
        cases tbb
        have wl : ws.length ≤ 27 := by
          have q := shNext_len z (ff.take j)
          rw [List.length_take] at q
          rw [aw.len, List.length_map]
          omega
        have bm : CMulW ((m : Nat) : Int) ((29 ^ z.length : Nat) : Int) := wide_mul (by rw [Int.natAbs_natCast]; exact small) (by rw [Int.natAbs_natCast]; exact zp2) (by omega) (by omega) (by omega)
        have bn : CMulW ((m : Nat) : Int) ((numL z.cps.toList : Nat) : Int) := wide_mul (by rw [Int.natAbs_natCast]; exact small) (by rw [Int.natAbs_natCast]; exact zn2) (by omega) (by omega) (by omega)
        refine ⟨ya, _, rfl, SqT.of y1, rfl, _, _, rfl, _, _, rfl, rfl, ?_⟩
        have two : (2 : Nat) ≤ sizeLine := by decide
        refine ⟨_, rfl, .inl ⟨rfl, _, SqL.of hw⟩, _, rfl, _, rfl, two, fun t1 g1 => ⟨_, rfl, _, rfl, _, _, rfl, rfl, bm, _, rfl, two, fun t2 g2 => ⟨two, fun l1 g3 => ?_⟩⟩⟩
        have a1 := same_new (o := .tup [V.int m, .bl bb]) g1
        have a2 := same_new (o := .tup [V.int ((m : Int) * ((29 ^ z.length : Nat) : Int)), .bl bb]) g2
        have a3 := same_new (o := .lst [V.ref t1, .ref t2]) g3
        have s34 := Same.trans (Same.trans a1 a2) a3
        have z1 := Same.trans a2 a3 _ _ (upd_same (H := H3) (a := t1) (o := .tup [V.int m, .bl bb]))
        have z2 := a3 _ _ (upd_same (H := upd H3 t1 (.tup [V.int m, .bl bb])) (a := t2) (o := .tup [V.int ((m : Int) * ((29 ^ z.length : Nat) : Int)), .bl bb]))
        have z3 := upd_same (H := upd (upd H3 t1 (.tup [V.int m, .bl bb])) t2 (.tup [V.int ((m : Int) * ((29 ^ z.length : Nat) : Int)), .bl bb])) (a := l1) (o := .lst [V.ref t1, .ref t2])
        refine ⟨L, l1, ws, _, rfl, rfl, s34 _ _ hw, z3, Nat.le_trans (show ws.length + 2 ≤ 100 by omega) (by decide), ?_⟩
        generalize upd (upd (upd H3 t1 (.tup [V.int m, .bl bb])) t2 (.tup [V.int ((m : Int) * ((29 ^ z.length : Nat) : Int)), .bl bb])) l1 (.lst [V.ref t1, .ref t2]) = H4 at s34 z1 z2 z3 ⊢
        have hw4 := s34 _ _ hw
        have e1 : ((m : Nat) : Int) * ((29 ^ z.length : Nat) : Int) = ((m * 29 ^ z.length : Nat) : Int) := by rw [Int.natCast_mul]
        have aw4 : TpAll H4 (ws ++ [V.ref t1, .ref t2]) ((shNext (ff.take j) z).map shD ++ [shD (m, bb), shD (m * 29 ^ z.length, bb)]) := by
          refine (aw.mono (Same.tk s34)).app (.cons (.tup z1 (.cons (.int _) (.cons (.bl _) .nil))) (.cons (.tup z2 (.cons ?_ (.cons (.bl _) .nil))) .nil))
          rw [e1]
          exact .int _
        have aw5 := aw4.mono (tk_lst (o := .lst (ws ++ [V.ref t1, .ref t2])) hw4)
        have s25 : Same H2 (upd H4 L (.lst (ws ++ [V.ref t1, .ref t2]))) := Same.put (Same.trans s3 s34) L0'
        have h5 : upd H4 L (.lst (ws ++ [V.ref t1, .ref t2])) L = some (.lst (ws ++ [V.ref t1, .ref t2])) := upd_same
        generalize upd H4 L (.lst (ws ++ [V.ref t1, .ref t2])) = H5 at aw5 s25 h5 ⊢
        refine ⟨_, rfl, _, rfl, ?_⟩
        cases bb with
        | true =>
          refine iteF' rfl ⟨s25, L0', ⟨_, _, rfl⟩, _, h5, ?_⟩
          rw [shNext_take hff, List.map_append]
          exact aw5
        | false =>
          refine iteT' rfl ⟨_, rfl, .inl ⟨rfl, _, SqL.of h5⟩, _, rfl, _, rfl, _, _, rfl, rfl, bn, two, fun t3 g4 => ?_⟩
          have h6 := same_new (o := .tup [V.int ((m : Int) * ((numL z.cps.toList : Nat) : Int)), .bl true]) g4 _ _ h5
          refine ⟨L, _, _, rfl, rfl, h6, ?_, Same.put (Same.trans s25 (same_new g4)) L0', L0', ⟨_, _, rfl⟩, ?_⟩
          · rw [List.length_append]
            exact Nat.lt_of_le_of_lt (show ws.length + 2 ≤ 100 by omega) (by decide)
          · have e2 : ((m : Nat) : Int) * ((numL z.cps.toList : Nat) : Int) = ((m * numL z.cps.toList : Nat) : Int) := by rw [Int.natCast_mul]
            have e3 : (shNext (ff.take (j + 1)) z).map shD = ((shNext (ff.take j) z).map shD ++ [shD (m, false), shD (m * 29 ^ z.length, false)]) ++ [shD (m * numL z.cps.toList, true)] := by
              rw [shNext_take hff, List.map_append, List.append_assoc]
              rfl
            rw [e3]
            refine LAt.push h6 (aw5.mono (tk_new g4)) (.tup upd_same (.cons ?_ (.cons (.bl _) .nil)))
            show Tp _ (.int (((m : Nat) : Int) * ((numL z.cps.toList : Nat) : Int))) (.int ((m * numL z.cps.toList : Nat) : Int))
            rw [e2]
            exact .int _
      · rintro σ H3 ⟨s3, L0', ⟨v6, v7, rfl⟩, hLL⟩
        rw [ul, List.take_length] at hLL
        refine ⟨_, rfl, Same.trans s1 (Same.trans s2 s3), L, _, _, _, _, _, _, rfl, ?_⟩
        rw [nx]
        exact hLL
    · rintro σ H1 ⟨s1, Fd, v2, v3, v4, v5, v6, v7, rfl, us, hu, au⟩
      rw [List.length_map, List.take_length] at au
      have ul : us.length = (shF ts).length := by rw [au.len, List.length_map]
      have fl : (shF ts).length ≤ 27 := by
        have q := (ok ts.length (Nat.le_refl _)).len
        rw [List.take_length] at q
        exact Nat.le_trans q (Nat.pow_le_pow_right (n := 3) (by decide) len3)
      refine ⟨_, rfl, Fd, rfl, ⟨_, SqL.of hu⟩, fun D hD => ?_⟩
      refine lc_list (K := K) (a := Fd) (xs := us) (fun i H' => Same H1 H' ∧ H' D = some (.lst (((shF ts).take i).map fun y => V.int y.1))) ⟨same_new hD, upd_same⟩ (fun i H' _ h => SqL.of (h.1 _ _ hu)) ?_ ?_
      · rintro j y H3 hj ⟨s3, hL⟩
        have jlt : j < (shF ts).length := by
          have q := (List.getElem?_eq_some_iff.mp hj).1
          omega
        have hff := List.getElem?_eq_getElem jlt
        obtain ⟨y', hy', ty⟩ := au.at hff
        rw [hj] at hy'
        cases hy'
        have more : (((shF ts).take (j + 1)).map fun y => V.int y.1) = (((shF ts).take j).map fun y => V.int y.1) ++ [V.int (shF ts)[j].1] := take_map_more hff
        generalize (shF ts)[j] = pr at *
        obtain ⟨m, bb⟩ := pr
        obtain ⟨ya, yx, rfl, y1, y2⟩ := (ty.mono (Same.tk s3)).tup_inv
        cases y2 with
        | @cons w1 x2 _ _ tm h3 =>
        cases h3 with
        | @cons w2 x3 _ _ tbb h4 =>
        cases h4
        obtain rfl := tm.int_inv
        refine ⟨ya, _, rfl, SqT.of y1, rfl, _, _, rfl, _, _, rfl, rfl, rfl, _, rfl, _, hL, ?_, Same.put s3 hD, by rw [upd_same, more]⟩
        rw [List.length_map, List.length_take]
        exact Nat.lt_of_le_of_lt (Nat.le_trans (Nat.min_le_right _ _) fl) (by decide)
      · rintro H3 ⟨s3, hL⟩
        rw [ul, List.take_length] at hL
        refine k D _ (Same.trans s1 s3) ?_
        rw [hL]
        unfold shadeL
        rw [List.map_map]
        rfl
end

/-! ### shadows promised -/
theorem shap {k n : Nat} {d : PyData} (h : Neat k n d) (hk : k ≤ 60) : SeqAt.shaped d = true := by
  unfold SeqAt.shaped
  have q := h.dep
  rw [h.lay, decide_eq_true (show d.depth ≤ 64 by omega)]
  rfl
def spShadow : Sp := fun vs H Q _ => ∃ (x : V) (d : PyData) (ts : List Str), vs = [x] ∧ Tp H x (.tuple [d, .tuple (ts.map .str)]) ∧ (∀ z ∈ ts, lowL z.cps.toList) ∧ 1 ≤ ts.length ∧ ts.length ≤ 3 ∧ totL ts ≤ 30000 ∧
  ∀ (t : Addr) H', Same H H' → H' t = some (.tup ((shadeL ts).map fun (n : Nat) => V.int n)) → Q (.ref t) H'
def intsD (l : List Nat) : PyData := .tuple (l.map fun (n : Nat) => .int n)
theorem dp_nats {K : PySem.W.Frag} {H : Hp} : ∀ l : List Nat, DpAll K H (l.map fun (n : Nat) => V.int n) (l.map fun (n : Nat) => .int n)
  | [] => .nil
  | n :: r => .cons (.int _) (dp_nats r)
theorem str_tp {H : Hp} : ∀ l : List Str, TpAll H (l.map V.str) (l.map .str)
  | [] => .nil
  | z :: r => .cons (.str z) (str_tp r)

/-! ### the law of shadows -/
theorem eqv_ints : ∀ l : List Nat, PyData.eqvAll (l.map fun (n : Nat) => PyData.int n) (l.map fun (n : Nat) => PyData.int n) = true
  | [] => by simp only [List.map_nil, PyData.eqvAll]
  | n :: r => by simp only [List.map_cons, PyData.eqvAll, PyData.eqv, eqv_ints r, beq_self_eq_true, Bool.and_self]
theorem eqv_strs : ∀ l : List Str, PyData.eqvAll (l.map PyData.str) (l.map PyData.str) = true
  | [] => by simp only [List.map_nil, PyData.eqvAll]
  | n :: r => by simp only [List.map_cons, PyData.eqvAll, PyData.eqv, eqv_strs r, beq_self_eq_true, Bool.and_self]
theorem ints_lay : ∀ l : List Nat, PyData.canLayAll0 (l.map fun (n : Nat) => PyData.int n) = true ∧ PyData.depthAll (l.map fun (n : Nat) => PyData.int n) = 0
  | [] => ⟨by simp only [List.map_nil, PyData.canLayAll0], by simp only [List.map_nil, PyData.depthAll]⟩
  | n :: r => by
    obtain ⟨a, b⟩ := ints_lay r
    exact ⟨by simp only [List.map_cons, PyData.canLayAll0, PyData.canLay0, a, Bool.and_self], by simp only [List.map_cons, PyData.depthAll, PyData.depth, b, Nat.max_self]⟩
theorem shap_ints (l : List Nat) : SeqAt.shaped (intsD l) = true := by
  obtain ⟨a, b⟩ := ints_lay l
  unfold SeqAt.shaped intsD
  simp only [PyData.canLay0, PyData.depth, a, b, Bool.true_and]
  decide
theorem shap_strsT {n : Nat} {l : List Str} (h : ∀ z ∈ l, Tx n z) : SeqAt.shaped (.tuple (l.map .str)) = true :=
  shap ((neatAll_map (k := 0) (a := n) fun z hz => (neat_str (low_strOk (h z hz).low)).le (Nat.le_refl _) (h z hz).len).tup) (by decide)
theorem ne_ints (l : List Nat) : (!PyData.eqv (intsD l) (intsD l)) = false := by
  unfold intsD
  simp only [PyData.eqv, eqv_ints, Bool.not_true]
theorem ne_strs (l : List Str) : (!PyData.eqv (.tuple (l.map .str)) (.tuple (l.map .str))) = false := by
  simp only [PyData.eqv, eqv_strs, Bool.not_true]
theorem shw_ints : ∀ {l : List Nat}, l.length ≤ 20 → (∀ n ∈ l, n < 10 ^ 300) → Shw (intsD l) := by
  intro l hl hb
  have all : ∀ {l : List Nat}, (∀ n ∈ l, n < 10 ^ 300) → PyData.showableAll (l.map fun (n : Nat) => PyData.int n) = true ∧ PyData.intsShortAll 301 (l.map fun (n : Nat) => PyData.int n) = true ∧ PyData.weightAll (l.map fun (n : Nat) => PyData.int n) ≤ l.length * 1922 := by
    intro l
    induction l with
    | nil => exact fun _ => ⟨by simp only [List.map_nil, PyData.showableAll], by simp only [List.map_nil, PyData.intsShortAll], by simp only [List.map_nil, PyData.weightAll, List.length_nil, Nat.zero_mul, Nat.le_refl]⟩
    | cons n r ih =>
      intro h
      obtain ⟨a, b, c⟩ := ih fun m hm => h m (List.mem_cons_of_mem _ hm)
      have hn : ((n : Nat) : Int).natAbs < 10 ^ 300 := by
        rw [Int.natAbs_natCast]
        exact h n List.mem_cons_self
      have lg := log_big hn
      refine ⟨?_, ?_, ?_⟩
      · simp only [List.map_cons, PyData.showableAll, PyData.showable, a, Bool.and_true, decide_eq_true_eq]
        exact lg
      · simp only [List.map_cons, PyData.intsShortAll, short_big hn, b, Bool.and_self]
      · simp only [List.map_cons, PyData.weightAll, PyData.weight, List.length_cons]
        split <;> omega
  obtain ⟨a, b, c⟩ := all hb
  obtain ⟨d, e⟩ := ints_lay l
  have lay : PyData.canLay0 (intsD l) = true := by
    unfold intsD
    simp only [PyData.canLay0, d]
  have short : PyData.intsShort 301 (intsD l) = true := by
    unfold intsD
    simp only [PyData.intsShort, b]
  refine ⟨lay, by unfold intsD; simp only [PyData.showable, a], by unfold intsD; simp only [PyData.depth, e]; decide, ?_⟩
  have q := PyData.shown_le 301 (by decide) _ (PyData.leavesShort_of_canLay0 301 _ lay short)
  have w : PyData.weight (intsD l) ≤ 38440 := by
    unfold intsD
    simp only [PyData.weight]
    omega
  exact Nat.le_trans q (Nat.le_trans (show (301 + 2) * PyData.weight (intsD l) + 301 ≤ 11700000 by omega) (by decide))
theorem shade_lt {ts : List Str} (low : ∀ z ∈ ts, lowL z.cps.toList) (ht : totL ts ≤ 150) : ∀ n ∈ shadeL ts, n < 10 ^ 300 := by
  have ok : ∀ i ≤ ts.length, ShOk i (totL (ts.take i)) (shF (ts.take i)) := by
    intro i
    induction i with
    | zero => exact fun _ => ⟨Nat.le_refl _, fun y hy => by rw [List.mem_singleton.mp hy]; show (1 : Nat) < 2 ^ (5 * 0 + 1); decide⟩
    | succ i ih =>
      intro hi
      have e := List.getElem?_eq_getElem (show i < ts.length from hi)
      have q := shNext_ok (ih (Nat.le_of_succ_le hi)) (low _ (List.getElem_mem hi))
      rw [totL_take e]
      unfold shF
      rw [foldl_more shNext [(1, false)] e]
      exact q
  have q := (ok ts.length (Nat.le_refl _)).lt
  rw [List.take_length] at q
  intro n hn
  obtain ⟨x, hx, rfl⟩ := List.mem_map.mp hn
  exact Nat.lt_of_lt_of_le (q x hx) (Nat.le_trans (Nat.pow_le_pow_right (by decide) (show 5 * totL ts + 1 ≤ 751 by omega)) (by decide +kernel))

/-! ### text[::-1] -/
def revS (z : Str) : Str := ⟨z.cps.toList.reverse.toArray⟩
section
open PySem.Spec PyProof.Rows
variable {X : Cx}
theorem pick_revS (z : Str) : (Builtin.Str.strSliceIndices none none (-1) z.length).filterMap (z.cps[·]?) = z.cps.toList.reverse := by
  have e : Builtin.Str.strSliceIndices none none (-1) z.length = (List.range z.length).reverse := by
    have h : Builtin.Str.strSliceIndices none none (-1) z.length = sliceRange ((z.length : Int) - 1) (-1) (-1) := by
      unfold Builtin.Str.strSliceIndices
      have h1 : ¬ ((-1 : Int) > 0) := by decide
      simp only [h1, if_false]
    rw [h, PySem.W.krv_sliceRange, PySem.W.krv_range]
  rw [e, List.filterMap_reverse]
  congr 1
  exact PySem.W.krv_all z.cps
def tRevS (te : TE) : TE := fun σ H Q => te σ H fun x H1 => ∃ z, x = .str z ∧ z.length ≤ sizeLine ∧ Q (.str (revS z)) H1
theorem pe_revS {e : Expr} {te : TE} {k : Nat} {p1 p2 p3 pos : Pos} (he : PE X e te) : PE X (.Subscript e (.Slice none none (some (.UnaryOp .USub (.Constant (.int 1) k p1) p2)) p3) pos) (tRevS te) := by
  refine ⟨fun pins s σ H Q I h => ?_⟩
  refine Subscript_ (thn (he.run pins s σ H _ I h) fun v s1 ⟨x, H1, I1, r1, q1⟩ => ?_)
  obtain ⟨z, ex, hz, q⟩ := q1
  subst ex
  obtain ⟨t, rfl⟩ := r1
  have hst : PO X (some (.UnaryOp .USub (.Constant (.int 1) k p1) p2)) (tPart (tUn (rU fun i => .int (-i)) (tC (.int 1)))) := po_some (pe_un un_neg pe_int)
  refine wpAny_Slice (thn (po_none.run pins s1 σ H1 (fun o H2 => o = none ∧ H2 = H1) I1 ⟨rfl, rfl⟩) fun vl s2 ⟨l, H2, I2, pl, el, e2⟩ => ?_)
  subst el e2
  refine thn (po_none.run pins s2 σ H2 (fun o H3 => o = none ∧ H3 = H2) I2 ⟨rfl, rfl⟩) fun vu s3 ⟨u, H3, I3, pu, eu, e3⟩ => ?_
  subst eu e3
  refine thn (hst.run pins s3 σ H3 (fun o H4 => o = some (-1) ∧ H4 = H3) I3 ⟨1, rfl, -1, rfl, rfl, rfl⟩) fun vs s4 ⟨o, H4, I4, ps, eo, e4⟩ => ?_
  subst eo e4
  cases pl
  cases pu
  obtain ⟨st, rfl, est⟩ := IsPart.raw ps
  have I5 : Inv X pins σ H4 { s4 with heap := s4.heap.push { cls := .type "slice", data := .fields #[.none, .none, partValue st] } } := I4.kept (t' := s4.toks) fun b ob q => Heap.get?_push_of_some _ q
  show wpAny (model X.prog X.w) X.A (subscriptTail e (.Slice none none (some (.UnaryOp .USub (.Constant (.int 1) k p1) p2)) p3) (.str z t) (.ref s4.heap.objs.size)) (EP X pins σ Q) X.xe { s4 with heap := s4.heap.push { cls := .type "slice", data := .fields #[.none, .none, partValue st] } }
  refine tail_any (ops := [.str z t, .ref s4.heap.objs.size]) (T := "str") (typeIs_str _ _ _) F.slot_str_getitem.lookup ?_ (by with_unfolding_all rfl)
  refine wpAny_getItem_str_slice (l := none) (u := none) (st := st) ⟨_, Heap.get?_push_size _ rfl, rfl, rfl⟩ (by rw [est]; rfl) ?_
  have e5 : sliceMade z t none none st = .str (revS z) := by
    unfold sliceMade slicePicked
    rw [est]
    show (if ((-1 : Int) == 1 && _) = true then Made.val (.str z t) else Made.str ⟨((Builtin.Str.strSliceIndices none none (-1) z.length).filterMap (z.cps[·]?)).toArray⟩) = _
    rw [if_neg (by intro h; rw [Bool.and_eq_true] at h; exact absurd h.1 (by decide)), pick_revS]
    rfl
  rw [e5]
  refine ⟨?_, .str _, H4, I5.tok _, ⟨_, rfl⟩, q⟩
  show z.cps.toList.reverse.toArray.size ≤ sizeLine
  rw [List.size_toArray, List.length_reverse, Array.length_toList]
  exact hz
end
/-! ### the program's numbers of texts -/
structure NB (mg : Str → Option Value) : Prop where
  base : ∃ t, mg "BASE" = some (.int 29 t)
theorem numL_rev {r : List Nat} {i c : Nat} (h : r[i]? = some c) : numL (r.take (i + 1)).reverse = (c - 96) + 29 * numL (r.take i).reverse := by
  rw [List.take_add_one, h]
  show numL (r.take i ++ [c]).reverse = _
  rw [List.reverse_append]
  rfl
theorem sq_half (s l : Nat) : s ^ l = (s * s) ^ (l / 2) * s ^ (l % 2) := by
  have e : 2 * (l / 2) + l % 2 = l := Nat.div_add_mod l 2
  have h : s ^ (2 * (l / 2) + l % 2) = (s * s) ^ (l / 2) * s ^ (l % 2) := by rw [Nat.pow_add, Nat.pow_mul, Nat.pow_two]
  rw [e] at h
  exact h
theorem odd_half {s l : Nat} (h : l % 2 = 1) : s ^ l = s * (s * s) ^ (l / 2) := by
  have q := sq_half s l
  rw [h, Nat.pow_one, Nat.mul_comm] at q
  exact q
theorem even_half {s l : Nat} (h : l % 2 = 0) : s ^ l = (s * s) ^ (l / 2) := by
  have q := sq_half s l
  rw [h, Nat.pow_zero, Nat.mul_one] at q
  exact q
theorem pow29b (n : Nat) : 29 ^ n ≤ 2 ^ (5 * n) := by
  rw [Nat.pow_mul]
  exact Nat.pow_le_pow_left (by decide) n
theorem pow29_lt {m : Nat} (h : m ≤ 30000) : 29 ^ m < 2 ^ 150001 :=
  Nat.lt_of_le_of_lt (pow29b m) (Nat.pow_lt_pow_right (by decide) (by omega))
theorem sq29 (k : Nat) : 29 ^ 2 ^ k * 29 ^ 2 ^ k = 29 ^ 2 ^ (k + 1) := by
  rw [← Nat.pow_add, Nat.pow_succ 2 k, Nat.mul_two]
theorem half_step (m k : Nat) : m / 2 ^ k / 2 = m / 2 ^ (k + 1) := by rw [Nat.div_div_eq_div_mul, Nat.pow_succ]
def spPow29 : Sp := fun vs H Q _ => ∃ m : Nat, vs = [.int 29, .int m] ∧ m ≤ 30000 ∧ ∀ H', Same H H' → Q (.int (29 ^ m : Nat)) H'
theorem sc_number_of : FnScope ["text", "total", "letter"] ["text"] (fnScope st_number_of_) := fnScope_by (by decide +kernel)
theorem sc_size_of : FnScope ["text"] ["text"] (fnScope st_size_of_) := fnScope_by (by decide +kernel)
theorem sc_power_of : FnScope ["base", "many", "power", "square", "left"] ["base", "many"] (fnScope st_power_of_) := fnScope_by (by decide +kernel)
section
variable {P : Program} {w : World} {K : PySem.W.Frag} {mg : Str → Option Value} {base : Heap} {f : Addr} {fd : FuncData}
theorem cal_number_of_ (lv : Nat) (F : C8.Def K mg "number_of" st_number_of_ f fd) (b : Binds K fd ["text"] []) (N : NB mg) (Bo : mg "ord" = none) : Cal P w K mg base (lv + 1) "number_of" spNumOf [] := by
  obtain ⟨tb, eb⟩ := N.base
  refine cal0 F b .nil sc_number_of (fun vs H Q E h => ?_) (fun cdv A outer s H vs Q E hr h => ?_)
  · obtain ⟨z, rfl, _⟩ := h
    rfl
  · obtain ⟨z, rfl, hl, hz, k⟩ := h
    refine ⟨_, pss_cons (ps_set (i := 1) sc_number_of.nd rfl (Or.inl rfl) pe_int)
      (pss_cons (ps_for PassesOwn.never rfl (pi_str (pe_revS (pv 0))) (pg_name (i := 2) sc_number_of.nd rfl (Or.inl rfl))
        (pss_one (ps_set (i := 1) sc_number_of.nd rfl (Or.inl rfl) (pe_op op_add (pe_op op_sub (pe_op op_add (pe_op op_mul (pv 1) (pe_glob (v := .int 29) rfl eb ⟨_, rfl⟩)) (pe_callB call_ord (by rfl) Bo (by decide +kernel) (pa_cons (pv 2) pa_nil))) (pe_callB call_ord (by rfl) Bo (by decide +kernel) (pa_cons pe_str pa_nil))) pe_int))))
      (pss_one (ps_ret (pv 1)))), ?_⟩
    refine ⟨_, rfl, z, rfl, Nat.le_trans hz (by decide), revS z, rfl, for_str (x := revS z) (fun i σ H' => H' = H ∧ ∃ v2 : Option V, σ = [some (.str z), some (.int (numL (z.cps.toList.reverse.take i).reverse : Nat)), v2]) ⟨rfl, _, rfl⟩ ?_ ?_⟩
    · rintro i c σ H1 hc ⟨rfl, v2, rfl⟩
      have hc' : z.cps.toList.reverse[i]? = some c := hc
      have c1 := hl c (List.mem_reverse.mp (List.mem_of_getElem? hc'))
      refine ⟨_, rfl, _, _, rfl, rfl, .inr ⟨by decide, by decide⟩, _, rfl, _, rfl, rfl, _, _, rfl, rfl, _, rfl, rfl, _, _, rfl, rfl, _, _, rfl, rfl, rfl, some (.str ⟨#[c]⟩), ?_⟩
      have e1 : ((numL (z.cps.toList.reverse.take i).reverse : Nat) : Int) * 29 + ((c : Nat) : Int) - 97 + 1 = ((numL (z.cps.toList.reverse.take (i + 1)).reverse : Nat) : Int) := by
        rw [numL_rev hc']
        omega
      rw [← e1]
      rfl
    · rintro σ H1 ⟨rfl, v2, rfl⟩
      refine ⟨_, rfl, ?_⟩
      have e : z.cps.toList.reverse.take (revS z).length = z.cps.toList.reverse := List.take_of_length_le (by show _ ≤ z.cps.toList.reverse.toArray.size; rw [List.size_toArray]; exact Nat.le_refl _)
      rw [e, List.reverse_reverse]
      exact k _ (Same.refl _)
theorem cal_power_of_ (F : C8.Def K mg "power_of" st_power_of_ f fd) (b : Binds K fd ["base", "many"] []) : Cal P w K mg base 1 "power_of" spPow29 [] := by
  refine cal0 F b .nil sc_power_of (fun vs H Q E h => ?_) (fun cdv A outer s H vs Q E hr h => ?_)
  · obtain ⟨m, rfl, _⟩ := h
    rfl
  · obtain ⟨m, rfl, hm, k⟩ := h
    refine ⟨_, pss_cons (ps_set (i := 2) sc_power_of.nd rfl (Or.inl rfl) pe_int)
      (pss_cons (ps_set (i := 3) sc_power_of.nd rfl (Or.inl rfl) (pv 0))
      (pss_cons (ps_set (i := 4) sc_power_of.nd rfl (Or.inl rfl) (pv 1))
      (pss_cons (ps_while PassesOwn.never (pt_cmpR op_gt (pv 4) pe_int (nomark _))
        (pss_cons (ps_if (pt_truth (pe_op op_odd (pv 4) pe_int) (fun _ => rfl)) (pss_one (ps_set (i := 2) sc_power_of.nd rfl (Or.inl rfl) (pe_op op_mulW (pv 2) (pv 3)))) pss_nil)
        (pss_cons (ps_set (i := 3) sc_power_of.nd rfl (Or.inl rfl) (pe_op op_mulW (pv 3) (pv 3)))
        (pss_one (ps_set (i := 4) sc_power_of.nd rfl (Or.inl rfl) (pe_op op_halfN (pv 4) pe_int))))))
      (pss_one (ps_ret (pv 2)))))), ?_⟩
    refine ⟨_, rfl, _, rfl, while_by (fun σ H' => H' = H ∧ ∃ p k : Nat, σ = [some (.int 29), some (.int m), some (.int p), some (.int (29 ^ 2 ^ k : Nat)), some (.int (m / 2 ^ k : Nat))] ∧ p * (29 ^ 2 ^ k) ^ (m / 2 ^ k) = 29 ^ m)
      (fun σ _ => match σ with | [_, _, _, _, some (.int l)] => l.toNat | _ => 0) ⟨rfl, 1, 0, ?_, ?_⟩ ?_ ?_⟩
    · show [some (V.int 29), some (V.int m), some (V.int 1), some (V.int 29), some (V.int m)] = _
      rw [Nat.pow_zero, Nat.div_one, Nat.pow_one]
      rfl
    · rw [Nat.pow_zero, Nat.div_one, Nat.pow_one, Nat.one_mul]
    · rintro σ H1 ⟨rfl, p, k2, rfl, ev⟩
      refine ⟨_, rfl, _, _, rfl, rfl, _, rfl, ite2 (fun c => ?_) (fun c => ?_)⟩
      · have l0 : 0 < m / 2 ^ k2 := by
          have := of_decide_eq_true c
          omega
        have hk : 2 ^ k2 ≤ m := by
          rcases Nat.lt_or_ge m (2 ^ k2) with z | z
          · rw [Nat.div_eq_of_lt z] at l0
            exact absurd l0 (Nat.lt_irrefl 0)
          · exact z
        have sb : 29 ^ 2 ^ k2 < 2 ^ 150001 := pow29_lt (Nat.le_trans hk hm)
        have pb : p < 2 ^ 150001 := by
          have h1 : 1 ≤ (29 ^ 2 ^ k2) ^ (m / 2 ^ k2) := Nat.pow_pos (Nat.pow_pos (by decide))
          have h2 : p ≤ p * (29 ^ 2 ^ k2) ^ (m / 2 ^ k2) := Nat.le_mul_of_pos_right p h1
          rw [ev] at h2
          exact Nat.lt_of_le_of_lt h2 (pow29_lt hm)
        have wm : ∀ {a b : Nat}, a < 2 ^ 150001 → b < 2 ^ 150001 → CMulW (a : Int) (b : Int) := fun ha hb => wide_mul (a := 150001) (b := 150001) (by rw [Int.natAbs_natCast]; exact ha) (by rw [Int.natAbs_natCast]; exact hb) (by decide) (by decide) (by decide)
        have dec : m / 2 ^ (k2 + 1) < m / 2 ^ k2 := by
          rw [← half_step]
          exact Nat.div_lt_self l0 (by decide)
        have back : ∀ p2 : Nat, p2 * (29 ^ 2 ^ (k2 + 1)) ^ (m / 2 ^ (k2 + 1)) = 29 ^ m →
            (H1 = H1 ∧ ∃ p k : Nat, ([some (.int 29), some (.int m), some (.int p2), some (.int (((29 ^ 2 ^ k2 : Nat) : Int) * ((29 ^ 2 ^ k2 : Nat) : Int))), some (.int ((m / 2 ^ k2 / 2 : Nat) : Int))] : L2.St) = [some (.int 29), some (.int m), some (.int p), some (.int (29 ^ 2 ^ k : Nat)), some (.int (m / 2 ^ k : Nat))] ∧ p * (29 ^ 2 ^ k) ^ (m / 2 ^ k) = 29 ^ m) := fun p2 h2 => by
          refine ⟨rfl, p2, k2 + 1, ?_, h2⟩
          rw [← Int.natCast_mul, sq29, half_step]
        refine ⟨_, rfl, _, rfl, rfl, _, rfl, ite2 (fun c2 => ?_) (fun c2 => ?_)⟩
        · have od : m / 2 ^ k2 % 2 = 1 := by
            have h2 : ((m / 2 ^ k2 % 2 : Nat) : Int) ≠ 0 := by simpa using c2
            omega
          refine ⟨_, rfl, _, rfl, _, _, rfl, rfl, wm pb sb, _, rfl, _, rfl, _, _, rfl, rfl, wm sb sb, _, rfl, _, rfl, rfl, ?_, ?_⟩
          · have q := back (p * 29 ^ 2 ^ k2) (by rw [← sq29, ← half_step, Nat.mul_assoc, ← odd_half od]; exact ev)
            rw [Int.natCast_mul] at q
            exact q
          · show (((m / 2 ^ k2 / 2 : Nat) : Int)).toNat < (((m / 2 ^ k2 : Nat) : Int)).toNat
            rw [Int.toNat_natCast, Int.toNat_natCast, half_step]
            exact dec
        · have ev2 : m / 2 ^ k2 % 2 = 0 := by
            have h2 : ((m / 2 ^ k2 % 2 : Nat) : Int) = 0 := by simpa using c2
            omega
          refine ⟨_, rfl, _, rfl, _, _, rfl, rfl, wm sb sb, _, rfl, _, rfl, rfl, ?_, ?_⟩
          · exact back p (by rw [← sq29, ← half_step, ← even_half ev2]; exact ev)
          · show (((m / 2 ^ k2 / 2 : Nat) : Int)).toNat < (((m / 2 ^ k2 : Nat) : Int)).toNat
            rw [Int.toNat_natCast, Int.toNat_natCast, half_step]
            exact dec
      · have l0 : m / 2 ^ k2 = 0 := by
          rcases Nat.eq_zero_or_pos (m / 2 ^ k2) with z | z
          · exact z
          · exact absurd (decide_eq_true (by omega)) c
        rw [l0, Nat.pow_zero, Nat.mul_one] at ev
        refine ⟨_, rfl, ?_⟩
        rw [ev]
        exact k _ (Same.refl _)
    · rintro σ H1 Q1 Q2 hq ⟨v, a, i, j, e1, e2, k3, ek, q⟩
      exact ⟨v, a, i, j, e1, e2, k3, ek, hq _ _ q⟩
theorem cal_size_of_ (lv : Nat) (F : C8.Def K mg "size_of" st_size_of_ f fd) (b : Binds K fd ["text"] []) (N : NB mg) (Bl : mg "len" = none) (Cp : Cal P w K mg base 1 "power_of" spPow29 []) : Cal P w K mg base (lv + 2) "size_of" spSizeOf [] := by
  obtain ⟨tb, eb⟩ := N.base
  refine cal0 F b .nil sc_size_of (fun vs H Q E h => ?_) (fun cdv A outer s H vs Q E hr h => ?_)
  · obtain ⟨z, rfl, _⟩ := h
    rfl
  · obtain ⟨z, rfl, hl, hz, k⟩ := h
    refine ⟨_, pss_one (ps_ret (pe_c Cp hr (by omega) (by rfl) (pa_cons (pe_glob (v := .int 29) rfl eb ⟨_, rfl⟩) (pa_cons (pe_callB call_len_str (by rfl) Bl PySem.boot_len (pa_cons (pv 0) pa_nil)) pa_nil)))), ?_⟩
    exact ⟨_, rfl, _, rfl, Nat.le_trans hz (by decide), _, rfl, Nat.le_trans hz (by decide), k⟩
end

/-! ### shadows, as the program makes them: of sizes and numbers -/
abbrev Ms := Nat × Nat
def mD (m : Ms) : PyData := .tuple [.int m.1, .int m.2]
def meas (z : Str) : Ms := (29 ^ z.length, numL z.cps.toList)
def sOneM (m : Ms) (x : Sh) : List Sh := [(x.1, x.2), (x.1 * m.1, x.2)] ++ (if x.2 then [] else [(x.1 * m.2, true)])
def sNextM (f : List Sh) (m : Ms) : List Sh := f.flatMap (sOneM m)
def sFM (ms : List Ms) : List Sh := ms.foldl sNextM [(1, false)]
def shadeM (ms : List Ms) : List Nat := (sFM ms).map (·.1)
theorem shade_meas (ts : List Str) : shadeM (ts.map meas) = shadeL ts := by
  unfold shadeM shadeL sFM shF
  rw [List.foldl_map]
  rfl
/-- with the truth ahead -/
def shB (x : Sh) : PyData := .tuple [.bool x.2, .int x.1]
theorem sNextM_take {f : List Sh} {m : Ms} {i : Nat} {x : Sh} (h : f[i]? = some x) : sNextM (f.take (i + 1)) m = sNextM (f.take i) m ++ sOneM m x := by
  unfold sNextM
  rw [List.take_add_one, h, List.flatMap_append]
  show _ ++ List.flatMap _ [x] = _
  rw [List.flatMap_cons, List.flatMap_nil, List.append_nil]
theorem sOneM_len (m : Ms) (x : Sh) : (sOneM m x).length ≤ 3 := by
  unfold sOneM
  cases x.2 <;> simp
theorem sNextM_len (m : Ms) : ∀ f : List Sh, (sNextM f m).length ≤ 3 * f.length
  | [] => Nat.le_refl _
  | x :: f => by
    have a := sOneM_len m x
    have b := sNextM_len m f
    show (List.flatMap (sOneM m) (x :: f)).length ≤ 3 * (f.length + 1)
    rw [List.flatMap_cons, List.length_append]
    have c : (List.flatMap (sOneM m) f).length ≤ 3 * f.length := b
    omega
/-- so many parts, each so small -/
structure ShOkM (k B : Nat) (f : List Sh) : Prop where
  len : f.length ≤ 3 ^ k
  lt : ∀ x ∈ f, x.1 < 2 ^ (B * k + 1)
theorem sOneM_lt {m : Ms} {x : Sh} {k B : Nat} (h1 : m.1 ≤ 2 ^ B) (h2 : m.2 ≤ 2 ^ B) (h : x.1 < 2 ^ (B * k + 1)) : ∀ y ∈ sOneM m x, y.1 < 2 ^ (B * (k + 1) + 1) := by
  have e : B * (k + 1) + 1 = (B * k + 1) + B := by rw [Nat.mul_succ]; omega
  have pos : 0 < 2 ^ B := Nat.pow_pos (by decide)
  have up : ∀ a, a ≤ 2 ^ B → x.1 * a < 2 ^ (B * (k + 1) + 1) := fun a ha => by
    rw [e, Nat.pow_add]
    exact Nat.lt_of_le_of_lt (Nat.mul_le_mul_left _ ha) ((Nat.mul_lt_mul_right pos).mpr h)
  have one : x.1 < 2 ^ (B * (k + 1) + 1) := by
    have q := up 1 pos
    rw [Nat.mul_one] at q
    exact q
  intro y hy
  unfold sOneM at hy
  rcases List.mem_append.mp hy with hy | hy
  · rcases List.mem_cons.mp hy with rfl | hy
    · exact one
    · rw [List.mem_singleton.mp hy]
      exact up _ h1
  · cases hb : x.2 with
    | true =>
      rw [hb, if_pos rfl] at hy
      cases hy
    | false =>
      rw [hb, if_neg Bool.false_ne_true] at hy
      rw [List.mem_singleton.mp hy]
      exact up _ h2
theorem sNextM_ok {k B : Nat} {f : List Sh} {m : Ms} (h : ShOkM k B f) (h1 : m.1 ≤ 2 ^ B) (h2 : m.2 ≤ 2 ^ B) : ShOkM (k + 1) B (sNextM f m) := by
  refine ⟨?_, fun y hy => ?_⟩
  · have a := sNextM_len m f
    have b := h.len
    rw [Nat.pow_succ]
    omega
  · obtain ⟨x, hx, hy⟩ := List.mem_flatMap.mp hy
    exact sOneM_lt h1 h2 (h.lt x hx) y hy
def bitsM : Nat := 150000
theorem meas_le {z : Str} (hl : lowL z.cps.toList) (hz : z.length ≤ 30000) : (meas z).1 ≤ 2 ^ bitsM ∧ (meas z).2 ≤ 2 ^ bitsM := by
  have p := pow29b z.length
  have q := numL_lt hl
  rw [Array.length_toList] at q
  have r : 2 ^ (5 * z.length) ≤ 2 ^ bitsM := Nat.pow_le_pow_right (by decide) (by unfold bitsM; omega)
  exact ⟨Nat.le_trans p r, Nat.le_trans (Nat.le_of_lt q) (Nat.le_trans p r)⟩
def spMeasures : Sp := fun vs H Q _ => ∃ (x : V) (ts : List Str), vs = [x] ∧ Tp H x (.tuple (ts.map .str)) ∧ (∀ z ∈ ts, lowL z.cps.toList) ∧ ts.length ≤ 3 ∧ (∀ z ∈ ts, z.length ≤ 30000) ∧ ∀ (y : V) H', Same H H' → Tp H' y (.tuple (ts.map fun z => mD (meas z))) → Q y H'
def spShadowOf : Sp := fun vs H Q _ => ∃ (x : V) (ms : List Ms), vs = [x] ∧ Tp H x (.tuple (ms.map mD)) ∧ ms.length ≤ 3 ∧ (∀ m ∈ ms, m.1 ≤ 2 ^ bitsM ∧ m.2 ≤ 2 ^ bitsM) ∧ ∀ (t : Addr) H', Same H H' → H' t = some (.tup ((shadeM ms).map fun (n : Nat) => V.int n)) → Q (.ref t) H'
def nShadowOf : List Str := ["measures", "products", "size", "number", "longer", "has_two", "value", "_"]
theorem sc_shadow_of : FnScope nShadowOf ["measures"] (fnScope st_shadow_of_) := fnScope_by (by decide +kernel)
theorem sc_measures_of : FnScope ["texts", "text"] ["texts"] (fnScope st_measures_of_) := fnScope_by (by decide +kernel)
theorem sc_shadow : FnScope ["situation"] ["situation"] (fnScope st_shadow_) := fnScope_by (by decide +kernel)
section
variable {P : Program} {w : World} {K : PySem.W.Frag} {mg : Str → Option Value} {base : Heap} {f : Addr} {fd : FuncData}
theorem cal_measures_of_ (F : C8.Def K mg "measures_of" st_measures_of_ f fd) (b : Binds K fd ["texts"] []) (Bt : mg "tuple" = none) (Cs : Cal P w K mg base 2 "size_of" spSizeOf []) (Cn : Cal P w K mg base 1 "number_of" spNumOf []) : Cal P w K mg base 3 "measures_of" spMeasures [] := by
  refine cal0 F b .nil sc_measures_of (fun vs H Q E h => ?_) (fun cdv A outer s H vs Q E hr h => ?_)
  · obtain ⟨x, ts, rfl, _⟩ := h
    rfl
  · obtain ⟨x, ts, rfl, hx, low, l3, lz, k⟩ := h
    obtain ⟨a, xs, rfl, h1, h2⟩ := hx.tup_inv
    obtain rfl := tpAll_strs h2
    refine ⟨_, pss_one (ps_ret (pe_callTy call_tuple_of (by rfl) Bt (by decide +kernel) (pa_cons (pe_lc (own := [("text", 1)]) (g := gName 1) (tt := tYes) (by rfl) sc_measures_of.nd (pi_tup (pv 0))
        (blkOk_by (own := [("text", 1)]) (N := ["texts", "text"]) (sc := fnScope st_measures_of_) (by decide +kernel)) (fun _ _ _ _ _ => pg_name (i := 1) sc_measures_of.nd rfl (Or.inl rfl)) (fun _ _ _ _ _ => pts_nil)
        (fun _ _ _ _ _ => pe_tup (pa_cons (pe_c Cs hr (by decide) (by rfl) (pa_cons (pv 1) pa_nil)) (pa_cons (pe_c Cn hr (by decide) (by rfl) (pa_cons (pv 1) pa_nil)) pa_nil)))) pa_nil))), ?_⟩
    refine ⟨_, rfl, a, rfl, ⟨_, SqT.of h1⟩, fun D hD => ?_⟩
    refine lc_tup (K := K) (a := a) (xs := ts.map V.str) (fun i H' => Same H H' ∧ LAt H' D ((ts.take i).map fun z => mD (meas z))) ⟨same_new hD, [], upd_same, .nil⟩ (fun i H' _ h => SqT.of (h.1 _ _ h1)) ?_ ?_
    · rintro i y H1 hi ⟨s1, ys, hL, ha⟩
      rw [List.getElem?_map] at hi
      cases ez : ts[i]? with
      | none =>
        rw [ez] at hi
        cases hi
      | some z =>
      rw [ez] at hi
      obtain rfl : V.str z = y := Option.some.inj hi
      have zm := List.mem_of_getElem? ez
      refine ⟨rfl, _, rfl, z, rfl, low z zm, lz z zm, fun H2 s2 => ⟨_, rfl, z, rfl, low z zm, lz z zm, fun H3 s3 => ⟨(by show 2 ≤ sizeLine; decide), fun t ht => ?_⟩⟩⟩
      have s23 := Same.trans s2 s3
      have hL3 := s23 _ _ hL
      have s4 := same_new (o := .tup [V.int (29 ^ z.length : Nat), .int (numL z.cps.toList : Nat)]) ht
      have il : i < ts.length := (List.getElem?_eq_some_iff.mp ez).1
      refine ⟨_, s4 _ _ hL3, ?_, Same.put (Same.trans (Same.trans s1 s23) s4) hD, ?_⟩
      · rw [ha.len, List.length_map, List.length_take]
        exact Nat.lt_of_le_of_lt (Nat.le_trans (Nat.min_le_right _ _) l3) (by decide)
      · rw [take_map_more ez]
        exact LAt.push (s4 _ _ hL3) ((ha.mono (Same.tk s23)).mono (Same.tk s4)) (.tup upd_same (.cons (.int _) (.cons (.int _) .nil)))
    · rintro H1 ⟨s1, ys, hL, ha⟩
      rw [List.length_map, List.take_length] at ha
      refine ⟨D, _, rfl, .inl ⟨SqL.of hL, fun p hp => k _ _ (Same.trans s1 (same_new hp)) (.tup upd_same (ha.mono (tk_new hp)))⟩⟩
theorem cal_shadow_of_ (F : C8.Def K mg "shadow_of" st_shadow_of_ f fd) (b : Binds K fd ["measures"] []) (Bt : mg "tuple" = none) : Cal P w K mg base 1 "shadow_of" spShadowOf [] := by
  refine cal0 F b .nil sc_shadow_of (fun vs H Q E h => ?_) (fun cdv A outer s H vs Q E hr h => ?_)
  · obtain ⟨x, ms, rfl, _⟩ := h
    rfl
  · obtain ⟨x, ms, rfl, hx, len3, mb, k⟩ := h
    obtain ⟨a, xs, rfl, h1, h2⟩ := hx.tup_inv
    refine ⟨_, pss_cons (ps_set (i := 1) sc_shadow_of.nd rfl (Or.inl rfl) (pe_lst (pa_cons (pe_tup (pa_cons pe_bl (pa_cons pe_int pa_nil))) pa_nil)))
      (pss_cons (ps_for PassesOwn.never rfl (pi_tup (pv 0)) (pg_tup rfl (pgs_cons (pg_name (i := 2) sc_shadow_of.nd rfl (Or.inl rfl)) (pgs_cons (pg_name (i := 3) sc_shadow_of.nd rfl (Or.inl rfl)) pgs_nil)))
        (pss_cons (ps_set (i := 4) sc_shadow_of.nd rfl (Or.inl rfl) (pe_lst pa_nil))
        (pss_cons (ps_for PassesOwn.never rfl (pi_list (pv 1)) (pg_tup rfl (pgs_cons (pg_name (i := 5) sc_shadow_of.nd rfl (Or.inl rfl)) (pgs_cons (pg_name (i := 6) sc_shadow_of.nd rfl (Or.inl rfl)) pgs_nil)))
          (pss_cons (ps_expr (pe_bm PySem.F.plainAttrs_list PySem.F.slot_list_append PySem.F.type_list_append mt_append (pv 4) (pa_cons (pe_tup (pa_cons (pv 5) (pa_cons (pv 6) pa_nil))) pa_nil)))
          (pss_cons (ps_expr (pe_bm PySem.F.plainAttrs_list PySem.F.slot_list_append PySem.F.type_list_append mt_append (pv 4) (pa_cons (pe_tup (pa_cons (pv 5) (pa_cons (pe_op op_mulW (pv 6) (pv 2)) pa_nil))) pa_nil)))
          (pss_one (ps_if (pt_not (pt_val (pv 5))) (pss_one (ps_expr (pe_bm PySem.F.plainAttrs_list PySem.F.slot_list_append PySem.F.type_list_append mt_append (pv 4) (pa_cons (pe_tup (pa_cons pe_bl (pa_cons (pe_op op_mulW (pv 6) (pv 3)) pa_nil))) pa_nil)))) pss_nil)))))
        (pss_one (ps_set (i := 1) sc_shadow_of.nd rfl (Or.inl rfl) (pv 4))))))
      (pss_one (ps_ret (pe_callTy call_tuple_of (by rfl) Bt (by decide +kernel) (pa_cons (pe_lc (own := [("_", 7), ("value", 6)]) (g := gTup K 2 (gCons (gName 7) (gCons (gName 6) gNil))) (tt := tYes) (by rfl) sc_shadow_of.nd (pi_list (pv 1))
        (blkOk_by (own := [("_", 7), ("value", 6)]) (N := nShadowOf) (sc := fnScope st_shadow_of_) (by decide +kernel)) (fun _ _ _ _ _ => pg_tupK K rfl (pgs_cons (pg_name (i := 7) sc_shadow_of.nd rfl (Or.inl rfl)) (pgs_cons (pg_name (i := 6) sc_shadow_of.nd rfl (Or.inl rfl)) pgs_nil))) (fun _ _ _ _ _ => pts_nil)
        (fun _ _ _ _ _ => pv 6)) pa_nil))))), ?_⟩
    have ok : ∀ i ≤ ms.length, ShOkM i bitsM (sFM (ms.take i)) := by
      intro i
      induction i with
      | zero => exact fun _ => ⟨Nat.le_refl _, fun y hy => by rw [List.mem_singleton.mp hy]; exact Nat.one_lt_two_pow (by omega)⟩
      | succ i ih =>
        intro hi
        have e := List.getElem?_eq_getElem (show i < ms.length from hi)
        have hb := mb _ (List.getElem_mem hi)
        have q := sNextM_ok (ih (Nat.le_of_succ_le hi)) hb.1 hb.2
        unfold sFM
        rw [foldl_more sNextM [(1, false)] e]
        exact q
    refine ⟨(by show 2 ≤ sizeLine; decide), fun t0 ht0 => ⟨(by show 1 ≤ sizeLine; decide), fun F0 hF0 => ?_⟩⟩
    have s0 := Same.trans (same_new (o := .tup [V.bl false, .int 1]) ht0) (same_new (o := .lst [V.ref t0]) hF0)
    have L0 : LAt (upd (upd H t0 (.tup [V.bl false, .int 1])) F0 (.lst [V.ref t0])) F0 (([(1, false)] : List Sh).map shB) := ⟨_, upd_same, .cons (.tup (same_new hF0 _ _ upd_same) (.cons (.bl _) (.cons (.int _) .nil))) .nil⟩
    generalize upd (upd H t0 (.tup [V.bl false, .int 1])) F0 (.lst [V.ref t0]) = H0 at s0 L0 ⊢
    refine ⟨_, rfl, a, rfl, ⟨_, SqT.of (s0 _ _ h1)⟩, for_tup (K := K) (a := a) (xs := xs) (fun i σ H' => Same H H' ∧ ∃ (Fd : Addr) (v2 v3 v4 v5 v6 : Option V), σ = [some (.ref a), some (.ref Fd), v2, v3, v4, v5, v6, none] ∧ LAt H' Fd ((sFM (ms.take i)).map shB))
      ⟨s0, F0, _, _, _, _, _, rfl, L0⟩ (fun i σ H' _ h => SqT.of (h.1 _ _ h1)) ?_ ?_⟩
    · rintro i x σ H1 hi ⟨s1, Fd, v2, v3, v4, v5, v6, rfl, us, hu, au⟩
      have ilt : i < ms.length := by
        have q := (List.getElem?_eq_some_iff.mp hi).1
        rw [h2.len, List.length_map] at q
        exact q
      have hz := List.getElem?_eq_getElem ilt
      obtain ⟨x', hx', tx⟩ := h2.at hz
      rw [hi] at hx'
      cases hx'
      have zb := mb _ (List.getElem_mem ilt)
      have fok := ok i (Nat.le_of_lt ilt)
      have nx : sFM (ms.take (i + 1)) = sNextM (sFM (ms.take i)) ms[i] := foldl_more sNextM [(1, false)] hz
      generalize ms[i] = mm at *
      obtain ⟨sz, nu⟩ := mm
      have p27 : 3 ^ i ≤ 9 := Nat.pow_le_pow_right (n := 3) (by decide) (show i ≤ 2 by omega)
      generalize sFM (ms.take i) = ff at *
      have flen : ff.length ≤ 9 := Nat.le_trans fok.len p27
      have ul : us.length = ff.length := by rw [au.len, List.length_map]
      obtain ⟨q, qx, rfl, q1, q2⟩ := (tx.mono (Same.tk s1)).tup_inv
      cases q2 with
      | @cons w1 x2 _ _ tm h3 =>
      cases h3 with
      | @cons w2 x3 _ _ tn h4 =>
      cases h4
      obtain rfl := tm.int_inv
      obtain rfl := tn.int_inv
      refine ⟨q, _, rfl, SqT.of q1, rfl, _, _, rfl, _, _, rfl, rfl, Nat.zero_le _, fun L hL => ?_⟩
      have s12 := same_new (o := .lst []) hL
      refine ⟨_, rfl, Fd, rfl, ⟨_, SqL.of (s12 _ _ hu)⟩, for_list (K := K) (a := Fd) (xs := us) (fun j σ H' => Same H1 H' ∧ H1 L = none ∧ (∃ v5 v6 : Option V, σ = [some (.ref a), some (.ref Fd), some (.int sz), some (.int nu), some (.ref L), v5, v6, none]) ∧ LAt H' L ((sNextM (ff.take j) (sz, nu)).map shB))
        ⟨same_new hL, hL, ⟨_, _, rfl⟩, [], upd_same, .nil⟩ (fun j σ H' _ h => SqL.of (h.1 _ _ hu)) ?_ ?_⟩
      · rintro j y σ H3 hj ⟨s3, L0', ⟨v5, v6, rfl⟩, ws, hw, aw⟩
        have jlt : j < ff.length := by
          have q := (List.getElem?_eq_some_iff.mp hj).1
          omega
        have hff := List.getElem?_eq_getElem jlt
        obtain ⟨y', hy', ty⟩ := au.at hff
        rw [hj] at hy'
        cases hy'
        have small := fok.lt _ (List.getElem_mem jlt)
        generalize ff[j] = pr at *
        obtain ⟨m, bb⟩ := pr
        obtain ⟨ya, yx, rfl, y1, y2⟩ := (ty.mono (Same.tk s3)).tup_inv
        cases y2 with
        | @cons w1 x2 _ _ tbb h3 =>
        cases h3 with
        | @cons w2 x3 _ _ tm h4 =>
        cases h4
        obtain rfl := tm.int_inv
        cases tbb
        have wl : ws.length ≤ 27 := by
          have q := sNextM_len (sz, nu) (ff.take j)
          rw [List.length_take] at q
          rw [aw.len, List.length_map]
          omega
        have big : bitsM * i + 1 + (bitsM + 1) ≤ 1000000 := by
          have : bitsM * i ≤ bitsM * 2 := Nat.mul_le_mul_left _ (by omega)
          unfold bitsM at *
          omega
        have lt1 : ∀ {c : Nat}, c ≤ 2 ^ bitsM → c < 2 ^ (bitsM + 1) := fun hc => Nat.lt_of_le_of_lt hc (Nat.pow_lt_pow_right (by decide) (by omega))
        have bm : CMulW ((m : Nat) : Int) ((sz : Nat) : Int) := wide_mul (by rw [Int.natAbs_natCast]; exact small) (by rw [Int.natAbs_natCast]; exact lt1 zb.1) (by omega) (by omega) big
        have bn : CMulW ((m : Nat) : Int) ((nu : Nat) : Int) := wide_mul (by rw [Int.natAbs_natCast]; exact small) (by rw [Int.natAbs_natCast]; exact lt1 zb.2) (by omega) (by omega) big
        refine ⟨ya, _, rfl, SqT.of y1, rfl, _, _, rfl, _, _, rfl, rfl, ?_⟩
        have two : (2 : Nat) ≤ sizeLine := by decide
        refine ⟨_, rfl, .inl ⟨rfl, _, SqL.of hw⟩, _, rfl, _, rfl, two, fun t1 g1 => ?_⟩
        have a1 := same_new (o := .tup [V.bl bb, .int m]) g1
        have hw1 := a1 _ _ hw
        refine ⟨L, _, _, rfl, rfl, hw1, Nat.lt_of_le_of_lt wl (by decide), ?_⟩
        have L1 := LAt.push hw1 (aw.mono (Same.tk a1)) (d := shB (m, bb)) (x := .ref t1) (.tup upd_same (.cons (.bl _) (.cons (.int _) .nil)))
        have sA : Same H1 (upd (upd H3 t1 (.tup [V.bl bb, .int m])) L (.lst (ws ++ [V.ref t1]))) := Same.put (Same.trans s3 a1) L0'
        generalize upd (upd H3 t1 (.tup [V.bl bb, .int m])) L (.lst (ws ++ [V.ref t1])) = H4 at L1 sA ⊢
        obtain ⟨w4, hw4, aw4⟩ := L1
        have wl4 : w4.length ≤ 28 := by
          rw [aw4.len, List.length_append, List.length_map]
          have q := aw.len
          rw [List.length_map] at q
          show _ + 1 ≤ 28
          omega
        refine ⟨_, rfl, .inl ⟨rfl, _, SqL.of hw4⟩, _, rfl, _, rfl, _, rfl, _, _, rfl, rfl, bm, two, fun t2 g2 => ?_⟩
        have e1 : ((m : Nat) : Int) * ((sz : Nat) : Int) = ((m * sz : Nat) : Int) := by rw [Int.natCast_mul]
        have a2 := same_new (o := .tup [V.bl bb, .int ((m : Int) * ((sz : Nat) : Int))]) g2
        have hw5 := a2 _ _ hw4
        refine ⟨L, _, _, rfl, rfl, hw5, Nat.lt_of_le_of_lt wl4 (by decide), ?_⟩
        have L2' := LAt.push hw5 (aw4.mono (Same.tk a2)) (d := shB (m * sz, bb)) (x := .ref t2) (.tup upd_same (.cons (.bl _) (.cons (by show Tp _ (.int (((m : Nat) : Int) * ((sz : Nat) : Int))) (.int ((m * sz : Nat) : Int)); rw [e1]; exact .int _) .nil)))
        have sB : Same H1 (upd (upd H4 t2 (.tup [V.bl bb, .int ((m : Int) * ((sz : Nat) : Int))])) L (.lst (w4 ++ [V.ref t2]))) := Same.put (Same.trans sA a2) L0'
        generalize upd (upd H4 t2 (.tup [V.bl bb, .int ((m : Int) * ((sz : Nat) : Int))])) L (.lst (w4 ++ [V.ref t2])) = H5 at L2' sB ⊢
        obtain ⟨w6, hw6, aw6⟩ := L2'
        have wl6 : w6.length ≤ 29 := by
          rw [aw6.len, List.length_append]
          have q := aw4.len
          show _ + 1 ≤ 29
          omega
        refine ⟨_, rfl, _, rfl, ?_⟩
        cases bb with
        | true =>
          refine iteF' rfl ⟨sB, L0', ⟨_, _, rfl⟩, w6, hw6, ?_⟩
          rw [sNextM_take hff, List.map_append]
          rw [List.append_assoc] at aw6
          exact aw6
        | false =>
          refine iteT' rfl ⟨_, rfl, .inl ⟨rfl, _, SqL.of hw6⟩, _, rfl, _, rfl, _, _, rfl, rfl, bn, two, fun t3 g4 => ?_⟩
          have e2 : ((m : Nat) : Int) * ((nu : Nat) : Int) = ((m * nu : Nat) : Int) := by rw [Int.natCast_mul]
          have a3 := same_new (o := .tup [V.bl true, .int ((m : Int) * ((nu : Nat) : Int))]) g4
          have hw7 := a3 _ _ hw6
          refine ⟨L, _, _, rfl, rfl, hw7, Nat.lt_of_le_of_lt wl6 (by decide), Same.put (Same.trans sB a3) L0', L0', ⟨_, _, rfl⟩, ?_⟩
          have L3 := LAt.push hw7 (aw6.mono (Same.tk a3)) (d := shB (m * nu, true)) (x := .ref t3) (.tup upd_same (.cons (.bl _) (.cons (by show Tp _ (.int (((m : Nat) : Int) * ((nu : Nat) : Int))) (.int ((m * nu : Nat) : Int)); rw [e2]; exact .int _) .nil)))
          have e3 : (sNextM (ff.take (j + 1)) (sz, nu)).map shB = (((sNextM (ff.take j) (sz, nu)).map shB ++ [shB (m, false)]) ++ [shB (m * sz, false)]) ++ [shB (m * nu, true)] := by
            rw [sNextM_take hff, List.map_append, List.append_assoc, List.append_assoc]
            rfl
          rw [e3]
          exact L3
      · rintro σ H3 ⟨s3, L0', ⟨v5, v6, rfl⟩, hLL⟩
        rw [ul, List.take_length] at hLL
        refine ⟨_, rfl, Same.trans s1 s3, L, _, _, _, _, _, rfl, ?_⟩
        rw [nx]
        exact hLL
    · rintro σ H1 ⟨s1, Fd, v2, v3, v4, v5, v6, rfl, us, hu, au⟩
      rw [h2.len, List.length_map, List.take_length] at au
      have ul : us.length = (sFM ms).length := by rw [au.len, List.length_map]
      have fl : (sFM ms).length ≤ 27 := by
        have q := (ok ms.length (Nat.le_refl _)).len
        rw [List.take_length] at q
        exact Nat.le_trans q (Nat.pow_le_pow_right (n := 3) (by decide) len3)
      refine ⟨_, rfl, Fd, rfl, ⟨_, SqL.of hu⟩, fun D hD => ?_⟩
      refine lc_list (K := K) (a := Fd) (xs := us) (fun i H' => Same H1 H' ∧ H' D = some (.lst (((sFM ms).take i).map fun y => V.int y.1))) ⟨same_new hD, upd_same⟩ (fun i H' _ h => SqL.of (h.1 _ _ hu)) ?_ ?_
      · rintro j y H3 hj ⟨s3, hL⟩
        have jlt : j < (sFM ms).length := by
          have q := (List.getElem?_eq_some_iff.mp hj).1
          omega
        have hff := List.getElem?_eq_getElem jlt
        obtain ⟨y', hy', ty⟩ := au.at hff
        rw [hj] at hy'
        cases hy'
        have more : (((sFM ms).take (j + 1)).map fun y => V.int y.1) = (((sFM ms).take j).map fun y => V.int y.1) ++ [V.int (sFM ms)[j].1] := take_map_more hff
        generalize (sFM ms)[j] = pr at *
        obtain ⟨m, bb⟩ := pr
        obtain ⟨ya, yx, rfl, y1, y2⟩ := (ty.mono (Same.tk s3)).tup_inv
        cases y2 with
        | @cons w1 x2 _ _ tbb h3 =>
        cases h3 with
        | @cons w2 x3 _ _ tm h4 =>
        cases h4
        obtain rfl := tm.int_inv
        refine ⟨ya, _, rfl, SqT.of y1, rfl, _, _, rfl, _, _, rfl, rfl, rfl, _, rfl, _, hL, ?_, Same.put s3 hD, by rw [upd_same, more]⟩
        rw [List.length_map, List.length_take]
        exact Nat.lt_of_le_of_lt (Nat.le_trans (Nat.min_le_right _ _) fl) (by decide)
      · rintro H3 ⟨s3, hL⟩
        rw [ul, List.take_length] at hL
        refine ⟨D, _, rfl, .inl ⟨SqL.of hL, fun p hp => k p _ (Same.trans (Same.trans s1 s3) (same_new hp)) ?_⟩⟩
        rw [upd_same]
        unfold shadeM
        rw [List.map_map]
        rfl
theorem cal_shadow_ (F : C8.Def K mg "shadow" st_shadow_ f fd) (b : Binds K fd ["situation"] []) (Cm : Cal P w K mg base 3 "measures_of" spMeasures []) (Co : Cal P w K mg base 1 "shadow_of" spShadowOf []) : Cal P w K mg base 4 "shadow" spShadow [] := by
  refine cal0 F b .nil sc_shadow (fun vs H Q E h => ?_) (fun cdv A outer s H vs Q E hr h => ?_)
  · obtain ⟨x, d, ts, rfl, _⟩ := h
    rfl
  · obtain ⟨x, d, ts, rfl, hx, low, n1, n3, tt, k⟩ := h
    obtain ⟨a, xs, rfl, h1, h2⟩ := hx.tup_inv
    cases h2 with
    | @cons v1 x2 _ _ td h3 =>
    cases h3 with
    | @cons v2 x3 _ _ tx h4 =>
    cases h4
    refine ⟨_, pss_one (ps_ret (pe_c Co hr (by decide) (by rfl) (pa_cons (pe_c Cm hr (by decide) (by rfl) (pa_cons (pe_ix ix_tup (pv 0) pe_int (fun _ _ => rfl)) pa_nil)) pa_nil))), ?_⟩
    refine ⟨_, rfl, a, _, _, _, rfl, rfl, SqT.of h1, atI_nat (j := 1) rfl, _, ts, rfl, tx, low, n3, fun z hz => Nat.le_trans (totL_mem hz) tt, fun y H1 s1 ty => ⟨_, ts.map meas, rfl, ?_, ?_, ?_, fun t H2 s2 ht => k t H2 (Same.trans s1 s2) ?_⟩⟩
    · rw [List.map_map]
      exact ty
    · rw [List.length_map]
      exact n3
    · intro m hm
      obtain ⟨z, hz, rfl⟩ := List.mem_map.mp hm
      exact meas_le (low z hz) (Nat.le_trans (totL_mem hz) tt)
    · rw [ht, shade_meas]
end

/-! ### shadows of words for two writers -/
abbrev Sit := Option (Nat × List Str)
def pairS : Sit → Sit → Option (List Nat)
  | none, none => none
  | some x, some y => some (shadeL x.2 ++ (shadeL y.2).drop 1)
  | _, _ => some [1]
def pairD : Option (List Nat) → PyData
  | none => .none
  | some l => intsD l
def jointL (o1 o2 : Sit) : List Nat := (pairS o1 o2).getD []
/-- a situation as these laws draw it -/
def SitOk (n : Nat) (o : Sit) : Prop := ∀ st ts, o = some (st, ts) → (∀ z ∈ ts, lowL z.cps.toList) ∧ 1 ≤ ts.length ∧ ts.length ≤ 3 ∧ totL ts ≤ n
theorem sit_run {k S B : Nat} {W : Wr} (h : WOk k S B W) (hS : 1 ≤ S) (hB : 1 ≤ B) (hB3 : B ≤ 3) {ns : List Nat} (hn : ∀ i ∈ ns, i < k) : SitOk (2 * B + 10 * B * ns.length) (runW W ns) := by
  intro st ts e
  have so := run_ok h hS hn st ts e
  exact ⟨so.low, by rw [so.len]; exact hB, by rw [so.len]; exact hB3, so.tot⟩
theorem SitOk.le {n m : Nat} {o : Sit} (h : SitOk n o) (hm : n ≤ m) : SitOk m o := fun st ts e => by
  obtain ⟨a, b, c, d⟩ := h st ts e
  exact ⟨a, b, c, Nat.le_trans d hm⟩
theorem shade27 {ts : List Str} (h : ts.length ≤ 3) : (shadeL ts).length ≤ 27 := by
  unfold shadeL
  rw [List.length_map]
  have main : ∀ (ts : List Str), (shF ts).length ≤ 3 ^ ts.length := by
    intro ts
    have step : ∀ (l : List Str) (f : List Sh), (l.foldl shNext f).length ≤ 3 ^ l.length * f.length := by
      intro l
      induction l with
      | nil => intro f; rw [List.foldl_nil, List.length_nil, Nat.pow_zero, Nat.one_mul]; exact Nat.le_refl _
      | cons z r ih =>
        intro f
        rw [List.foldl_cons, List.length_cons, Nat.pow_succ]
        have a := ih (shNext f z)
        have b := shNext_len z f
        have c := Nat.mul_le_mul_left (3 ^ r.length) b
        rw [Nat.mul_assoc]
        omega
    have q := step ts [(1, false)]
    rw [List.length_singleton, Nat.mul_one] at q
    exact q
  exact Nat.le_trans (main ts) (Nat.pow_le_pow_right (n := 3) (by decide) h)
theorem shade_pos {ts : List Str} (h : ts.length ≤ 3) (h1 : 1 ≤ ts.length) : 1 ≤ (shadeL ts).length := by
  match ts, h1, h with
  | [a], _, _ => show 1 ≤ 3; decide
  | [a, b], _, _ => show 1 ≤ 8; decide
  | [a, b, c], _, _ => show 1 ≤ 20; decide
  | _ :: _ :: _ :: _ :: _, _, h => exact absurd h (by simp)
theorem tp_ints {H : Hp} {t : Addr} {l : List Nat} (h : H t = some (.tup (l.map fun (n : Nat) => V.int n))) : Tp H (.ref t) (intsD l) := .tup h (TpAll.map fun n _ => .int n)
theorem Tp.ints_inv {H : Hp} {v : V} {l : List Nat} (h : Tp H v (intsD l)) : ∃ t, v = .ref t ∧ H t = some (.tup (l.map fun (n : Nat) => V.int n)) := by
  obtain ⟨t, xs, rfl, h1, h2⟩ := h.tup_inv
  have e : (l.map fun (n : Nat) => PyData.int n) = (iN l).map .int := by unfold iN; rw [List.map_map]; rfl
  rw [e] at h2
  rw [tpAll_ints h2] at h1
  have e2 : (iN l).map V.int = l.map fun (n : Nat) => V.int n := by unfold iN; rw [List.map_map]; rfl
  rw [e2] at h1
  exact ⟨t, rfl, h1⟩
def spPair : Sp := fun vs H Q _ => ∃ (a b t : V) (W1 W2 : Wr) (ns : List Nat) (k S1 B1 S2 B2 : Nat), vs = [a, b, t] ∧ Tp H a W1.d ∧ Tp H b W2.d ∧ Tp H t (wordD ns) ∧ WOk k S1 B1 W1 ∧ WOk k S2 B2 W2 ∧ 1 ≤ S1 ∧ 1 ≤ S2 ∧ 1 ≤ B1 ∧ B1 ≤ 3 ∧ 1 ≤ B2 ∧ B2 ≤ 3 ∧ (∀ i ∈ ns, i < k) ∧ ns.length ≤ 900 ∧
  ∀ (v : V) H', Same H H' → Tp H' v (pairD (pairS (runW W1 ns) (runW W2 ns))) → Q v H'
theorem sc_pair : FnScope ["first", "second", "word", "one", "two"] ["first", "second", "word"] (fnScope st_pair_shadow_) := fnScope_by (by decide +kernel)
section
variable {P : Program} {w : World} {K : PySem.W.Frag} {mg : Str → Option Value} {base : Heap} {f : Addr} {fd : FuncData}
theorem cal_pair_shadow_ (F : C8.Def K mg "pair_shadow" st_pair_shadow_ f fd) (b : Binds K fd ["first", "second", "word"] []) (Cb : Cal P w K mg base 4 "behind" spBehind []) (Ch : Cal P w K mg base 4 "shadow" spShadow []) : Cal P w K mg base 5 "pair_shadow" spPair [] := by
  refine cal0 F b .nil sc_pair (fun vs H Q E h => ?_) (fun cdv A outer s H vs Q E hr h => ?_)
  · obtain ⟨a, b, t, W1, W2, ns, k, S1, B1, S2, B2, rfl, _⟩ := h
    rfl
  · obtain ⟨a, b, t, W1, W2, ns, kk, S1, B1, S2, B2, rfl, ha, hb, ht, w1, w2, s1, s2, b1, b1', b2, b2', hn, hl, k⟩ := h
    refine ⟨_, pss_cons (ps_set (i := 3) sc_pair.nd rfl (Or.inl rfl) (pe_c Cb hr (by decide) (by rfl) (pa_cons (pv 0) (pa_cons (pv 2) pa_nil))))
      (pss_cons (ps_set (i := 4) sc_pair.nd rfl (Or.inl rfl) (pe_c Cb hr (by decide) (by rfl) (pa_cons (pv 1) (pa_cons (pv 2) pa_nil))))
      (pss_cons (ps_if (PW.pt (pw_and (pt_cmp (pc_isN (pv 3))) (pw_and1 (pt_cmp (pc_isN (pv 4)))))) (pss_one (ps_ret pe_non)) pss_nil)
      (pss_cons (ps_if (PW.pt (pw_or (pt_cmp (pc_isN (pv 3))) (pw_or1 (pt_cmp (pc_isN (pv 4)))))) (pss_one (ps_ret (pe_tup (pa_cons pe_int pa_nil)))) pss_nil)
      (pss_one (ps_ret (pe_op op_catA (pe_c Ch hr (by decide) (by rfl) (pa_cons (pv 3) pa_nil)) (pe_slice sl_tupA (pe_c Ch hr (by decide) (by rfl) (pa_cons (pv 4) pa_nil)) (po_some pe_int) po_none))))))), ?_⟩
    have bd1 : 2 * B1 + 10 * B1 * ns.length ≤ 30000 := by
      have := Nat.mul_le_mul (Nat.mul_le_mul_left 10 b1') hl
      omega
    have bd2 : 2 * B2 + 10 * B2 * ns.length ≤ 30000 := by
      have := Nat.mul_le_mul (Nat.mul_le_mul_left 10 b2') hl
      omega
    have o1 := (sit_run w1 s1 b1 b1' hn).le bd1
    have o2 := (sit_run w2 s2 b2 b2' hn).le bd2
    refine ⟨_, rfl, _, rfl, a, t, W1, ns, kk, S1, B1, rfl, ha, ht, w1, s1, by omega, hn, by omega, fun v1 H1 g1 t1 => ?_⟩
    refine ⟨_, rfl, _, rfl, b, t, W2, ns, kk, S2, B2, rfl, hb.mono (Same.tk g1), ht.mono (Same.tk g1), w2, s2, by omega, hn, by omega, fun v2 H2 g2 t2 => ?_⟩
    have g12 := Same.trans g1 g2
    have t1' := t1.mono (Same.tk g2)
    generalize runW W1 ns = r1 at *
    generalize runW W2 ns = r2 at *
    refine ⟨_, rfl, _, rfl, ?_⟩
    cases r1 with
    | none =>
      obtain rfl := t1'.non_inv
      refine iteT' (decide_eq_true rfl) ⟨_, rfl, _, rfl, ?_⟩
      cases r2 with
      | none =>
        obtain rfl := t2.non_inv
        exact iteT' (decide_eq_true rfl) (k _ _ g12 .non)
      | some y =>
        obtain ⟨st, ts⟩ := y
        obtain ⟨ya, yx, rfl, _⟩ := t2.tup_inv
        refine iteF' (decide_eq_false (fun z => by cases z)) ⟨_, rfl, _, rfl, iteT' (decide_eq_true rfl) (iteT ⟨(by show 1 ≤ sizeLine; decide), fun q hq => k _ _ (Same.trans g12 (same_new hq)) (tp_ints (l := [1]) upd_same)⟩)⟩
    | some x =>
      obtain ⟨st1, ts1⟩ := x
      have t1'' := t1'
      obtain ⟨xa, xx, rfl, _⟩ := t1'.tup_inv
      refine iteF' (decide_eq_false (fun z => by cases z)) (iteF ⟨_, rfl, _, rfl, iteF' (decide_eq_false (fun z => by cases z)) ⟨_, rfl, _, rfl, ?_⟩⟩)
      cases r2 with
      | none =>
        obtain rfl := t2.non_inv
        exact iteT' (decide_eq_true rfl) ⟨(by show 1 ≤ sizeLine; decide), fun q hq => k _ _ (Same.trans g12 (same_new hq)) (tp_ints (l := [1]) upd_same)⟩
      | some y =>
        obtain ⟨st2, ts2⟩ := y
        have t2' := t2
        obtain ⟨ya, yx, rfl, _⟩ := t2.tup_inv
        obtain ⟨l1, n1, m1, q1⟩ := o1 st1 ts1 rfl
        obtain ⟨l2, n2, m2, q2⟩ := o2 st2 ts2 rfl
        refine iteF' (decide_eq_false (fun z => by cases z)) ?_
        refine ⟨_, rfl, _, _, ts1, rfl, t1'', l1, n1, m1, q1, fun h1 H3 g3 e1 => ?_⟩
        refine ⟨_, rfl, _, _, ts2, rfl, t2'.mono (Same.tk g3), l2, n2, m2, q2, fun h2 H4 g4 e2 => ⟨((1 : Nat) : Int), rfl, ?_⟩⟩
        have f1 := shade27 m1
        have f2 := shade27 m2
        unfold tNoPart
        refine sl_drop (k := 1) (ds := (shadeL ts2).map fun (n : Nat) => .int n) (tp_ints e2) ?_ fun v3 H5 g5 t3 => ?_
        · have := (shade_pos m2 n2)
          rw [List.length_map]
          omega
        have g45 := Same.trans g4 g5
        refine cat_tp (ds := (shadeL ts1).map fun (n : Nat) => .int n) ((tp_ints e1).mono (Same.tk g45)) t3 (by rw [List.length_map]; omega) (by rw [List.length_drop, List.length_map]; omega) fun v4 H6 g6 t4 => ?_
        refine k _ _ (Same.trans (Same.trans g12 (Same.trans g3 g45)) g6) ?_
        show Tp H6 v4 (.tuple ((shadeL ts1 ++ (shadeL ts2).drop 1).map fun (n : Nat) => .int n))
        rw [List.map_append, List.map_drop]
        exact t4
end

def spOnward : Sp := fun vs H Q _ => ∃ (a x : V) (W : Wr) (o : Option (Nat × List Str)) (k S B kd n : Nat), vs = [a, x, .int kd] ∧ Tp H a W.d ∧ Tp H x (sitD o) ∧ WOk k S B W ∧ (∀ st ts, o = some (st, ts) → SOk S B n st ts) ∧ n ≤ 600000 ∧ B ≤ 50 ∧ kd < k ∧
  ∀ (v : V) H', Same H H' → Tp H' v (sitD (stepW W o kd)) → Q v H'
theorem sc_onward : FnScope ["writer", "situation", "kind", "entry", "recipe"] ["writer", "situation", "kind"] (fnScope st_law_onward) := fnScope_by (by decide +kernel)
theorem sc_lbehind : FnScope ["writer", "word", "situation", "kind"] ["writer", "word"] (fnScope st_law_behind) := fnScope_by (by decide +kernel)
section
variable {P : Program} {w : World} {K : PySem.W.Frag} {mg : Str → Option Value} {base : Heap} {f : Addr} {fd : FuncData}
theorem cal_onward (F : C8.Def K mg "_law_onward" st_law_onward f fd) (b : Binds K fd ["writer", "situation", "kind"] []) (B : BN2 mg) (Cm : Cal P w K mg base 1 "_law_made" spMade []) : Cal P w K mg base 2 "_law_onward" spOnward [] := by
  refine cal0 F b .nil sc_onward (fun vs H Q E h => ?_) (fun cdv A outer s H vs Q E hr h => ?_)
  · obtain ⟨a, x, W, o, k, S, B, kd, n, rfl, _⟩ := h
    rfl
  · obtain ⟨a, x, W, o, kk, S, Bf, kd, n, rfl, ha, hx, hW, ho, hn, h50, hk, k⟩ := h
    refine ⟨_, pss_cons (ps_if (pt_cmp (pc_isN (pv 1))) (pss_one (ps_ret pe_non)) pss_nil)
      (pss_cons (ps_set (i := 3) sc_onward.nd rfl (Or.inl rfl) (pe_ix ix_tup (pe_ix ix_tup (pe_ix ix_tup (pv 0) pe_int (fun _ _ => rfl)) (pe_ix ix_tup (pv 1) pe_int (fun _ _ => rfl)) (fun _ _ => rfl)) (pv 2) (fun _ _ => rfl)))
      (pss_cons (ps_if (pt_cmp (pc_isN (pv 3))) (pss_one (ps_ret pe_non)) pss_nil)
      (pss_one (ps_ret (pe_tup (pa_cons (pe_ix ix_tup (pv 3) pe_int (fun _ _ => rfl)) (pa_cons (pe_callTy call_tuple_of (by rfl) B.tuple (by decide +kernel) (pa_cons (pe_lc (own := [("recipe", 4)]) (g := gName 4) (tt := tYes) (by rfl) sc_onward.nd (pi_tup (pe_ix ix_tup (pv 3) pe_int (fun _ _ => rfl)))
        (blkOk_by (own := [("recipe", 4)]) (N := ["writer", "situation", "kind", "entry", "recipe"]) (sc := fnScope st_law_onward) (by decide +kernel)) (fun _ _ _ _ _ => pg_name (i := 4) sc_onward.nd rfl (Or.inl rfl)) (fun _ _ _ _ _ => pts_nil)
        (fun _ _ _ _ _ => pe_c Cm hr (by decide) (by rfl) (pa_cons (pv 4) (pa_cons (pe_ix (ix_tupK K) (pv 1) pe_int (fun _ _ => rfl)) pa_nil)))) pa_nil)) pa_nil))))))), ?_⟩
    refine ⟨_, rfl, _, rfl, ?_⟩
    cases o with
    | none =>
      obtain rfl := hx.non_inv
      exact iteT' (decide_eq_true rfl) (k _ _ (Same.refl H) .non)
    | some o =>
      obtain ⟨st, ts⟩ := o
      have so := ho st ts rfl
      obtain ⟨sa, sx, rfl, h1, h2⟩ := hx.tup_inv
      cases h2 with
      | @cons vst x1 _ _ u1 u2 =>
      cases u2 with
      | @cons vts x2 _ _ u3 u4 =>
      cases u4
      obtain rfl := u1.int_inv
      obtain ⟨wa, wx, rfl, w1, w2⟩ := ha.tup_inv
      cases w2 with
      | @cons vb x3 _ _ tb w3 =>
      cases w3 with
      | @cons vr x4 _ _ tr w4 =>
      obtain ⟨ra, rx, rfl, tr1, tr2⟩ := tr.tup_inv
      obtain ⟨row, en, g1, g2, g3, g4⟩ := ent_at hW so.st hk
      obtain ⟨rv, y1, y2⟩ := tr2.at g1
      obtain ⟨rwa, rws, rfl, y3, y4⟩ := y2.tup_inv
      obtain ⟨ev, y5, y6⟩ := y4.at g2
      have step : stepW W (some (st, ts)) kd = goE ts en := congrArg (goE ts) g3
      rw [step] at k
      refine iteF' (decide_eq_false (fun z => by cases z)) ?_
      refine ⟨_, rfl, wa, _, _, _, rfl, rfl, SqT.of w1, atI_nat (j := 1) rfl, _, rfl, sa, _, _, _, rfl, rfl, SqT.of h1, atI_nat (j := 0) rfl, ra, rx, _, _, rfl, rfl, SqT.of tr1, atI_nat y1, _, rfl, rwa, rws, _, _, rfl, rfl, SqT.of y3, atI_nat y5, ?_⟩
      refine ⟨_, rfl, _, rfl, ?_⟩
      cases en with
      | none =>
        obtain rfl := y6.non_inv
        exact iteT' (decide_eq_true rfl) (k _ _ (Same.refl H) .non)
      | some y =>
        obtain ⟨tg, fs⟩ := y
        obtain ⟨ea, es, rfl, y7, y8⟩ := y6.tup_inv
        cases y8 with
        | @cons vtg x9 _ _ z1 z2 =>
        cases z2 with
        | @cons vfs x10 _ _ z3 z4 =>
        cases z4
        obtain rfl := z1.int_inv
        obtain ⟨fa, fx, rfl, f1, f2⟩ := z3.tup_inv
        obtain ⟨g5, g6⟩ := g4 tg fs rfl
        refine iteF' (decide_eq_false (fun z => by cases z)) ?_
        refine ⟨_, rfl, ea, _, _, _, rfl, rfl, SqT.of y7, atI_nat (j := 0) rfl, ?_⟩
        refine ⟨_, rfl, ea, _, _, _, rfl, rfl, SqT.of y7, atI_nat (j := 1) rfl, fa, rfl, ⟨_, SqT.of f1⟩, fun D hD => ?_⟩
        have lenx : fx.length = fs.length := by rw [f2.len, List.length_map]
        refine lc_tup (K := K) (a := fa) (xs := fx) (fun i H' => Same H H' ∧ H' D = some (.lst (((fs.take i).map (mk ts)).map V.str))) ⟨same_new hD, upd_same⟩ (fun i H' _ h => SqT.of (h.1 _ _ f1)) ?_ ?_
        · rintro i x H1 hi ⟨s1, hL⟩
          have hlt : i < fs.length := by
            have := (List.getElem?_eq_some_iff.mp hi).1
            omega
          obtain ⟨v, hv, tv⟩ := f2.at (List.getElem?_eq_getElem hlt)
          rw [hi] at hv
          cases hv
          have mem := List.getElem_mem hlt
          have tot9 : tot ts ≤ 900000 := Nat.le_trans so.tot (Nat.le_trans hn (by decide))
          obtain ⟨m1, m2, m3⟩ := fills_one g6 so.len tot9 h50 mem
          refine ⟨rfl, ?_⟩
          refine ⟨_, rfl, _, rfl, sa, _, _, _, rfl, rfl, SqT.of (s1 _ _ h1), atI_nat (j := 1) rfl, x, vts, fs[i], ts, rfl, tv.mono (Same.tk s1), u3.mono (Same.tk s1), m1, m2, m3, fun H2 s2 => ?_⟩
          refine ⟨_, s2 _ _ hL, ?_, Same.put (Same.trans s1 s2) hD, ?_⟩
          · rw [List.length_map, List.length_map, List.length_take]
            exact Nat.lt_of_le_of_lt (Nat.le_trans (Nat.min_le_right _ _) (show fs.length ≤ 50 by rw [g6.len]; exact h50)) (by decide)
          · rw [upd_same, take_map_more (List.getElem?_eq_getElem hlt), List.map_append]
            rfl
        · rintro H1 ⟨s1, hL⟩
          rw [lenx, List.take_length] at hL
          refine ⟨D, _, rfl, .inl ⟨SqL.of hL, fun u hu => ⟨(by show 2 ≤ sizeLine; decide), fun q hq => ?_⟩⟩⟩
          refine k _ _ (Same.trans (Same.trans s1 (same_new hu)) (same_new hq)) (.tup upd_same (.cons (.int tg) (.cons (.tup ?_ (TpAll.map fun z _ => .str z)) .nil)))
          exact tk_new hq _ _ upd_same
theorem cal_lbehind (F : C8.Def K mg "_law_behind" st_law_behind f fd) (b : Binds K fd ["writer", "word"] []) (Co : Cal P w K mg base 2 "_law_onward" spOnward []) : Cal P w K mg base 3 "_law_behind" spBehind [] := by
  refine cal0 F b .nil sc_lbehind (fun vs H Q E h => ?_) (fun cdv A outer s H vs Q E hr h => ?_)
  · obtain ⟨a, t, W, ns, k, S, B, rfl, _⟩ := h
    rfl
  · obtain ⟨a, t, W, ns, kk, S, Bf, rfl, ha, ht, hW, hS, h50, hns, hln, k⟩ := h
    obtain ⟨a, xs, rfl, ha1, ha2⟩ := ha.tup_inv
    cases ha2 with
    | @cons vb x2 _ _ tb h2 =>
    obtain ⟨t, rfl, ht1⟩ := ht.word_inv
    refine ⟨_, pss_cons (ps_set (i := 2) sc_lbehind.nd rfl (Or.inl rfl) (pe_tup (pa_cons pe_int (pa_cons (pe_ix ix_tup (pv 0) pe_int (fun _ _ => rfl)) pa_nil))))
      (pss_cons (ps_for PassesOwn.never rfl (pi_tup (pv 1)) (pg_name (i := 3) sc_lbehind.nd rfl (Or.inl rfl))
        (pss_one (ps_set (i := 2) sc_lbehind.nd rfl (Or.inl rfl) (pe_c Co hr (by decide) (by rfl) (pa_cons (pv 0) (pa_cons (pv 2) (pa_cons (pv 3) pa_nil)))))))
      (pss_one (ps_ret (pv 2)))), ?_⟩
    refine ⟨_, rfl, a, _, _, _, rfl, rfl, SqT.of ha1, atI_nat (j := 0) rfl, (by show 2 ≤ sizeLine; decide), fun u hu => ?_⟩
    have s0 := same_new (o := .tup [.int 0, vb]) hu
    refine ⟨_, rfl, t, rfl, ⟨_, SqT.of (s0 _ _ ht1)⟩, for_tup (K := K) (a := t) (xs := (iN ns).map V.int) (fun i σ H' => Same H H' ∧ ∃ (x : V) (v3 : Option V), Tp H' x (sitD (runW W (ns.take i))) ∧ σ = [some (.ref a), some (.ref t), some x, v3])
      ⟨s0, .ref u, none, .tup upd_same (.cons (.int 0) (.cons (tb.mono (Same.tk s0)) .nil)), rfl⟩ (fun i σ H' _ h => SqT.of (h.1 _ _ ht1)) ?_ ?_⟩
    · rintro i x σ H1 hi ⟨s1, y, v3, ty, rfl⟩
      obtain ⟨kd, hkd, rfl⟩ : ∃ kd, ns[i]? = some kd ∧ x = V.int (kd : Nat) := by
        unfold iN at hi
        rw [List.map_map, List.getElem?_map] at hi
        cases e : ns[i]? with
        | none =>
          rw [e] at hi
          cases hi
        | some y =>
          rw [e] at hi
          exact ⟨y, rfl, (Option.some.inj hi).symm⟩
      have hk := hns kd (List.mem_of_getElem? hkd)
      have tl : (ns.take i).length ≤ 1000 := by rw [List.length_take]; omega
      refine ⟨_, rfl, _, rfl, _, rfl, .ref a, y, W, runW W (ns.take i), kk, S, Bf, kd, _, rfl, ha.mono (Same.tk s1), ty, hW, run_ok hW hS (fun j hj => hns j (List.mem_of_mem_take hj)), bound9 h50 tl, h50, hk, fun v H2 s2 tv => ⟨Same.trans s1 s2, v, _, ?_, rfl⟩⟩
      rw [run_more W hkd]
      exact tv
    · rintro σ H1 ⟨s1, y, v3, ty, rfl⟩
      have e : ((iN ns).map V.int).length = ns.length := by
        unfold iN
        rw [List.length_map, List.length_map]
      rw [e, List.take_length] at ty
      exact ⟨_, rfl, k _ _ s1 ty⟩
end

/-! ### greater shadows may be shown, too -/
theorem short_b4 {i : Int} (h : i.natAbs < 10 ^ 400) : PyData.intsShort 401 (.int i) = true := by
  simp only [PyData.intsShort, PyData.shown, decide_eq_true_eq]
  exact decide_eq_true (Nat.le_trans (Nat.le_of_eq (str_len _)) (int_text_length_le10 (a := i) (k := 400) (by decide) h))
theorem log_b4 {i : Int} (h : i.natAbs < 10 ^ 400) : i.natAbs.log2 < 1920 := by
  by_cases h0 : i.natAbs = 0
  · rw [h0]
    decide
  · rw [Nat.log2_lt h0]
    exact Nat.lt_trans h (by decide +kernel)
theorem shw_ints4 : ∀ {l : List Nat}, l.length ≤ 20 → (∀ n ∈ l, n < 10 ^ 400) → Shw (intsD l) := by
  intro l hl hb
  have all : ∀ {l : List Nat}, (∀ n ∈ l, n < 10 ^ 400) → PyData.showableAll (l.map fun (n : Nat) => PyData.int n) = true ∧ PyData.intsShortAll 401 (l.map fun (n : Nat) => PyData.int n) = true ∧ PyData.weightAll (l.map fun (n : Nat) => PyData.int n) ≤ l.length * 1922 := by
    intro l
    induction l with
    | nil => exact fun _ => ⟨by simp only [List.map_nil, PyData.showableAll], by simp only [List.map_nil, PyData.intsShortAll], by simp only [List.map_nil, PyData.weightAll, List.length_nil, Nat.zero_mul, Nat.le_refl]⟩
    | cons n r ih =>
      intro h
      obtain ⟨a, b, c⟩ := ih fun m hm => h m (List.mem_cons_of_mem _ hm)
      have hn : ((n : Nat) : Int).natAbs < 10 ^ 400 := by
        rw [Int.natAbs_natCast]
        exact h n List.mem_cons_self
      have lg := log_b4 hn
      refine ⟨?_, ?_, ?_⟩
      · simp only [List.map_cons, PyData.showableAll, PyData.showable, a, Bool.and_true, decide_eq_true_eq]
        exact lg
      · simp only [List.map_cons, PyData.intsShortAll, short_b4 hn, b, Bool.and_self]
      · simp only [List.map_cons, PyData.weightAll, PyData.weight, List.length_cons]
        split <;> omega
  obtain ⟨a, b, c⟩ := all hb
  obtain ⟨d, e⟩ := ints_lay l
  have lay : PyData.canLay0 (intsD l) = true := by
    unfold intsD
    simp only [PyData.canLay0, d]
  have short : PyData.intsShort 401 (intsD l) = true := by
    unfold intsD
    simp only [PyData.intsShort, b]
  refine ⟨lay, by unfold intsD; simp only [PyData.showable, a], by unfold intsD; simp only [PyData.depth, e]; decide, ?_⟩
  have q := PyData.shown_le 401 (by decide) _ (PyData.leavesShort_of_canLay0 401 _ lay short)
  have w : PyData.weight (intsD l) ≤ 38440 := by
    unfold intsD
    simp only [PyData.weight]
    omega
  exact Nat.le_trans q (Nat.le_trans (show (401 + 2) * PyData.weight (intsD l) + 401 ≤ 15500000 by omega) (by decide))
theorem shade_lt4 {ts : List Str} (low : ∀ z ∈ ts, lowL z.cps.toList) (ht : totL ts ≤ 260) : ∀ n ∈ shadeL ts, n < 10 ^ 400 := by
  have ok : ∀ i ≤ ts.length, ShOk i (totL (ts.take i)) (shF (ts.take i)) := by
    intro i
    induction i with
    | zero => exact fun _ => ⟨Nat.le_refl _, fun y hy => by rw [List.mem_singleton.mp hy]; show (1 : Nat) < 2 ^ (5 * 0 + 1); decide⟩
    | succ i ih =>
      intro hi
      have e := List.getElem?_eq_getElem (show i < ts.length from hi)
      have q := shNext_ok (ih (Nat.le_of_succ_le hi)) (low _ (List.getElem_mem hi))
      rw [totL_take e]
      unfold shF
      rw [foldl_more shNext [(1, false)] e]
      exact q
  have q := (ok ts.length (Nat.le_refl _)).lt
  rw [List.take_length] at q
  intro n hn
  obtain ⟨x, hx, rfl⟩ := List.mem_map.mp hn
  exact Nat.lt_of_lt_of_le (q x hx) (Nat.le_trans (Nat.pow_le_pow_right (by decide) (show 5 * totL ts + 1 ≤ 1301 by omega)) (by decide +kernel))
theorem shade_len {ts : List Str} (h : ts.length ≤ 2) (h1 : 1 ≤ ts.length) : (shadeL ts).length ≤ 8 := by
  match ts, h1, h with
  | [a], _, _ => show 3 ≤ 8; decide
  | [a, b], _, _ => show 8 ≤ 8; decide
  | _ :: _ :: _ :: _, _, h => exact absurd h (by simp)
def Sit2 (o : Sit) : Prop := ∀ st ts, o = some (st, ts) → ts.length ≤ 2
theorem shw_pair {o1 o2 : Sit} (h1 : SitOk 260 o1) (h2 : SitOk 260 o2) (b1 : Sit2 o1) (b2 : Sit2 o2) : Shw (pairD (pairS o1 o2)) := by
  match o1, o2, h1, h2, b1, b2 with
  | none, none, _, _, _, _ => exact neat_none.shw (by decide) (by decide)
  | none, some _, _, _, _, _ => exact shw_ints4 (l := [1]) (by decide) (fun n hn => by rw [List.mem_singleton.mp hn]; decide +kernel)
  | some _, none, _, _, _, _ => exact shw_ints4 (l := [1]) (by decide) (fun n hn => by rw [List.mem_singleton.mp hn]; decide +kernel)
  | some (s1, t1), some (s2, t2), h1, h2, b1, b2 =>
    obtain ⟨l1, n1, _, m1⟩ := h1 s1 t1 rfl
    obtain ⟨l2, n2, _, m2⟩ := h2 s2 t2 rfl
    have e1 := shade_len (b1 s1 t1 rfl) n1
    have e2 := shade_len (b2 s2 t2 rfl) n2
    refine shw_ints4 (l := shadeL t1 ++ (shadeL t2).drop 1) ?_ fun n hn => ?_
    · rw [List.length_append, List.length_drop]
      omega
    · rcases List.mem_append.mp hn with hn | hn
      · exact shade_lt4 l1 m1 n hn
      · exact shade_lt4 l2 m2 n (List.mem_of_mem_drop hn)
theorem shap_listI (l : List Nat) : SeqAt.shaped (.list (l.map fun (n : Nat) => PyData.int n)) = true := by
  obtain ⟨d, e⟩ := ints_lay l
  unfold SeqAt.shaped
  simp only [PyData.canLay0, PyData.depth, d, e]
  decide

/-! ### the law's shadows of words -/
def spJoint : Sp := fun vs H Q _ => ∃ (x y : V) (o1 o2 : Sit), vs = [x, y] ∧ Tp H x (sitD o1) ∧ Tp H y (sitD o2) ∧ SitOk 30000 o1 ∧ SitOk 30000 o2 ∧ ∀ (t : Addr) H', Same H H' → H' t = some (.lst ((jointL o1 o2).map fun (n : Nat) => V.int n)) → Q (.ref t) H'
theorem sc_joint : FnScope ["one", "two"] ["one", "two"] (fnScope st_law_joint) := fnScope_by (by decide +kernel)
section
variable {P : Program} {w : World} {K : PySem.W.Frag} {mg : Str → Option Value} {base : Heap} {f : Addr} {fd : FuncData}
theorem cal_joint (F : C8.Def K mg "_law_joint" st_law_joint f fd) (b : Binds K fd ["one", "two"] []) (Cs : Cal P w K mg base 2 "_law_shade" spShade []) : Cal P w K mg base 3 "_law_joint" spJoint [] := by
  refine cal0 F b .nil sc_joint (fun vs H Q E h => ?_) (fun cdv A outer s H vs Q E hr h => ?_)
  · obtain ⟨x, y, o1, o2, rfl, _⟩ := h
    rfl
  · obtain ⟨x, y, o1, o2, rfl, tx, ty, h1, h2, k⟩ := h
    refine ⟨_, pss_cons (ps_if (PW.pt (pw_and (pt_cmp (pc_isN (pv 0))) (pw_and1 (pt_cmp (pc_isN (pv 1)))))) (pss_one (ps_ret (pe_lst pa_nil))) pss_nil)
      (pss_cons (ps_if (PW.pt (pw_or (pt_cmp (pc_isN (pv 0))) (pw_or1 (pt_cmp (pc_isN (pv 1)))))) (pss_one (ps_ret (pe_lst (pa_cons pe_int pa_nil)))) pss_nil)
      (pss_one (ps_ret (pe_op op_cat (pe_c Cs hr (by decide) (by rfl) (pa_cons (pv 0) pa_nil)) (pe_slice sl_list (pe_c Cs hr (by decide) (by rfl) (pa_cons (pv 1) pa_nil)) (po_some pe_int) po_none))))), ?_⟩
    refine ⟨_, rfl, _, rfl, ?_⟩
    cases o1 with
    | none =>
      obtain rfl := tx.non_inv
      refine iteT' (decide_eq_true rfl) ⟨_, rfl, _, rfl, ?_⟩
      cases o2 with
      | none =>
        obtain rfl := ty.non_inv
        exact iteT' (decide_eq_true rfl) ⟨Nat.zero_le _, fun q hq => k _ _ (same_new hq) upd_same⟩
      | some y =>
        obtain ⟨st, ts⟩ := y
        obtain ⟨ya, yx, rfl, _⟩ := ty.tup_inv
        exact iteF' (decide_eq_false (fun z => by cases z)) ⟨_, rfl, _, rfl, iteT' (decide_eq_true rfl) (iteT ⟨(by show 1 ≤ sizeLine; decide), fun q hq => k _ _ (same_new hq) upd_same⟩)⟩
    | some x =>
      obtain ⟨st1, ts1⟩ := x
      have tx' := tx
      obtain ⟨xa, xx, rfl, _⟩ := tx.tup_inv
      refine iteF' (decide_eq_false (fun z => by cases z)) (iteF ⟨_, rfl, _, rfl, iteF' (decide_eq_false (fun z => by cases z)) ⟨_, rfl, _, rfl, ?_⟩⟩)
      cases o2 with
      | none =>
        obtain rfl := ty.non_inv
        exact iteT' (decide_eq_true rfl) ⟨(by show 1 ≤ sizeLine; decide), fun q hq => k _ _ (same_new hq) upd_same⟩
      | some y =>
        obtain ⟨st2, ts2⟩ := y
        have ty' := ty
        obtain ⟨ya, yx, rfl, _⟩ := ty.tup_inv
        obtain ⟨l1, n1, m1, q1⟩ := h1 st1 ts1 rfl
        obtain ⟨l2, n2, m2, q2⟩ := h2 st2 ts2 rfl
        have f1 := shade27 m1
        have f2 := shade27 m2
        have p2 := shade_pos m2 n2
        refine iteF' (decide_eq_false (fun z => by cases z)) ?_
        refine ⟨_, rfl, _, _, ts1, rfl, tx', l1, m1, q1, fun a1 H3 g3 e1 => ?_⟩
        refine ⟨_, rfl, _, _, ts2, rfl, ty'.mono (Same.tk g3), l2, m2, q2, fun a2 H4 g4 e2 => ⟨((1 : Nat) : Int), rfl, ?_⟩⟩
        unfold tNoPart
        refine ⟨a2, _, rfl, SqL.of e2, fun p hp => ?_⟩
        have ec : cutV ((shadeL ts2).map fun (n : Nat) => V.int n) (some ((1 : Nat) : Int)) none = ((shadeL ts2).map fun (n : Nat) => V.int n).drop 1 := cut_drop _ 1 (by rw [List.length_map]; exact p2)
        rw [ec]
        have sp' := same_new (o := .lst (((shadeL ts2).map fun (n : Nat) => V.int n).drop 1)) hp
        refine ⟨a1, p, _, _, rfl, rfl, sp' _ _ (g4 _ _ e1), upd_same, ?_, fun q hq => k _ _ (Same.trans (Same.trans (Same.trans g3 g4) sp') (same_new hq)) ?_⟩
        · rw [List.length_map, List.length_drop, List.length_map]
          exact Nat.le_trans (show _ ≤ 100 by omega) (by decide)
        · rw [upd_same]
          show some (HO.lst _) = some (HO.lst ((shadeL ts1 ++ (shadeL ts2).drop 1).map fun (n : Nat) => V.int n))
          rw [List.map_append, List.map_drop]
end
/-! ### a word's shadow is right -/
def WordArgs (H : Hp) (vs : List V) (W1 W2 : Wr) (ns : List Nat) : Prop := ∃ (a b t : V) (k S1 B1 S2 B2 : Nat), vs = [a, b, t] ∧ Tp H a W1.d ∧ Tp H b W2.d ∧ Tp H t (wordD ns) ∧ WOk k S1 B1 W1 ∧ WOk k S2 B2 W2 ∧ 1 ≤ S1 ∧ 1 ≤ S2 ∧ 1 ≤ B1 ∧ B1 ≤ 2 ∧ 1 ≤ B2 ∧ B2 ≤ 2 ∧ (∀ i ∈ ns, i < k) ∧ ns.length ≤ 12
def spWordRight : Sp := fun vs H Q _ => ∃ (W1 W2 : Wr) (ns : List Nat), WordArgs H vs W1 W2 ns ∧ ∀ H', Same H H' → Q (.bl true) H'
def nWR : List Str := ["first", "second", "word", "here", "there", "row", "found"]
theorem sc_word_right : FnScope nWR ["first", "second", "word"] (fnScope st_law_word_right) := fnScope_by (by decide +kernel)
theorem same_false (z : Str) : (!decide (V.str z = V.str z)) = false := by
  rw [decide_eq_true rfl]
  rfl
theorem eq_ints (l : List Nat) : PyData.eqv (intsD l) (intsD l) = true := by
  unfold intsD
  simp only [PyData.eqv, eqv_ints]
section
variable {P : Program} {w : World} {K : PySem.W.Frag} {mg : Str → Option Value} {base : Heap} {f : Addr} {fd : FuncData}
theorem fn_word_right (F : C8.Fun K "_law_word_right" "_law_word_right" st_law_word_right f fd) (B : BN2 mg) (Br : mg "repr" = none) (Clb : Cal P w K mg base 3 "_law_behind" spBehind []) (Cj : Cal P w K mg base 3 "_law_joint" spJoint []) (Cp : Cal P w K mg base 5 "pair_shadow" spPair []) (Ch : Cal P w K mg base 4 "shadow" spShadow []) :
    FnG P w K mg base 6 f fd ["first", "second", "word"] spWordRight := by
  refine fnG_by F sc_word_right (fun vs H Q E h => ?_) (fun cdv A outer s H vs Q E gu hr h => ?_)
  · obtain ⟨W1, W2, ns, ⟨a, b, t, k, S1, B1, S2, B2, rfl, _⟩, _⟩ := h
    rfl
  · obtain ⟨W1, W2, ns, ⟨a, b, t, kk, S1, B1, S2, B2, rfl, ha, hb, ht, w1, w2, s1, s2, b1, b1', b2, b2', hn, hl⟩, k⟩ := h
    refine ⟨_, pss_cons (ps_par (i := 3) (j := 4) rfl sc_word_right.nd rfl rfl (by decide) rfl rfl (pa_cons (pe_c Clb hr (by decide) (by rfl) (pa_cons (pv 0) (pa_cons (pv 2) pa_nil))) (pa_cons (pe_c Clb hr (by decide) (by rfl) (pa_cons (pv 1) (pa_cons (pv 2) pa_nil))) pa_nil)) (by rfl))
      (pss_cons (ps_set (i := 5) sc_word_right.nd rfl (Or.inl rfl) (pe_c Cj hr (by decide) (by rfl) (pa_cons (pv 3) (pa_cons (pv 4) pa_nil))))
      (pss_cons (ps_set (i := 6) sc_word_right.nd rfl (Or.inl rfl) (pe_c Cp hr (by decide) (by rfl) (pa_cons (pv 0) (pa_cons (pv 1) (pa_cons (pv 2) pa_nil)))))
      (pss_cut (ps_if (pt_cmpR op_ne (pe_callB (call_reprS gu hr.units) (by rfl) Br (by decide +kernel) (pa_cons (pv 6) pa_nil)) (pe_callB (call_reprS gu hr.units) (by rfl) Br (by decide +kernel) (pa_cons (pe_ifExp (pt_cmpR (op_neD hr.units) (pv 5) (pe_lst pa_nil) (nomark _)) (pe_callTy call_tuple_of (by rfl) B.tuple (by decide +kernel) (pa_cons (pv 5) pa_nil)) pe_non) pa_nil)) (nomark _)) (pss_one (ps_ret pe_bl)) pss_nil)
      (pss_cons (ps_if (PW.pt (pw_and (pt_cmp (pc_notN (pv 3))) (pw_and1 (pt_cmp (pc_notN (pv 4)))))) (pss_one (ps_ret (pe_cmpR (op_eqD hr.units) (pv 6) (pe_op op_catA (pe_c Ch hr (by decide) (by rfl) (pa_cons (pv 3) pa_nil)) (pe_slice sl_tupA (pe_c Ch hr (by decide) (by rfl) (pa_cons (pv 4) pa_nil)) (po_some pe_int) po_none)) (nomark _)))) pss_nil)
      (pss_one (ps_ret (pe_or (pe_cmp (pc_isN (pv 6)) rfl) (pe_one (pe_cmpR (op_eqD hr.units) (pv 6) (pe_tup (pa_cons pe_int pa_nil)) (nomark _)))))))))), ?_⟩
    have bd1 : 2 * B1 + 10 * B1 * ns.length ≤ 260 := by
      have := Nat.mul_le_mul (Nat.mul_le_mul_left 10 b1') hl
      omega
    have bd2 : 2 * B2 + 10 * B2 * ns.length ≤ 260 := by
      have := Nat.mul_le_mul (Nat.mul_le_mul_left 10 b2') hl
      omega
    have o1 := (sit_run w1 s1 b1 (by omega) hn).le bd1
    have o2 := (sit_run w2 s2 b2 (by omega) hn).le bd2
    have c1 : Sit2 (runW W1 ns) := fun st ts e => by rw [(run_ok w1 s1 hn st ts e).len]; exact b1'
    have c2 : Sit2 (runW W2 ns) := fun st ts e => by rw [(run_ok w2 s2 hn st ts e).len]; exact b2'
    have shw := shw_pair o1 o2 c1 c2
    refine ⟨_, rfl, _, rfl, a, t, W1, ns, kk, S1, B1, rfl, ha, ht, w1, s1, by omega, hn, by omega, fun v1 H1 g1 t1 => ?_⟩
    refine ⟨_, rfl, _, rfl, b, t, W2, ns, kk, S2, B2, rfl, hb.mono (Same.tk g1), ht.mono (Same.tk g1), w2, s2, by omega, hn, by omega, fun v2 H2 g2 t2 => ⟨_, _, rfl, ?_⟩⟩
    have g12 := Same.trans g1 g2
    have t1' := t1.mono (Same.tk g2)
    refine ⟨_, rfl, _, rfl, v1, v2, _, _, rfl, t1', t2, o1.le (by decide), o2.le (by decide), fun jr H3 g3 ej => ?_⟩
    have g13 := Same.trans g12 g3
    refine ⟨_, rfl, _, rfl, _, rfl, a, b, t, W1, W2, ns, kk, S1, B1, S2, B2, rfl, ha.mono (Same.tk g13), hb.mono (Same.tk g13), ht.mono (Same.tk g13), w1, w2, s1, s2, b1, by omega, b2, by omega, hn, by omega, fun fv H4 g4 tf => ?_⟩
    have g34 := Same.trans g3 g4
    have ej4 := g4 _ _ ej
    have tv1 := t1'.mono (Same.tk g34)
    have tv2 := t2.mono (Same.tk g34)
    have g14 := Same.trans g13 g4
    generalize runW W1 ns = r1 at *
    generalize runW W2 ns = r2 at *
    refine ⟨fun σ H' => σ = [some a, some b, some t, some v1, some v2, some (.ref jr), some fv] ∧ Same H4 H', ?_, ?_⟩
    · refine ⟨_, rfl, fv, _, rfl, tf.dp, shw, _, rfl, Nat.zero_le _, fun e he => ?_⟩
      have se := same_new (o := .lst []) he
      refine ⟨.list ((jointL r1 r2).map fun (n : Nat) => .int n), .list [], .lst (SqL.of (se _ _ ej4)) (dp_nats _), .lst (SqL.of upd_same) .nil, shap_listI _, by decide, _, rfl, ?_⟩
      rw [list_ne_nil]
      unfold jointL at ej4 ⊢
      cases ep : pairS r1 r2 with
      | none =>
        rw [ep] at ej4 shw
        refine iteF' rfl ⟨_, _, rfl, .non, shw, rfl, _, rfl, iteF' (same_false _) ⟨rfl, se⟩⟩
      | some l =>
        rw [ep] at ej4 shw
        have ne : ((l.map fun (n : Nat) => PyData.int n).isEmpty) = false := by
          have pos : l ≠ [] := by
            match r1, r2, ep with
            | none, some _, e => cases e; simp
            | some _, none, e => cases e; simp
            | some (a1, ts1), some (a2, ts2), e =>
              cases e
              obtain ⟨_, n1, m1, _⟩ := o1 a1 ts1 rfl
              have := shade_pos m1 n1
              intro z
              have q := congrArg List.length z
              rw [List.length_append, List.length_nil] at q
              have q2 : (shadeL ts1).length = 0 := (Nat.add_eq_zero_iff.mp q).1
              omega
          cases l with
          | nil => exact absurd rfl pos
          | cons _ _ => rfl
        have ne2 : (!(((some l).getD []).map fun (n : Nat) => PyData.int n).isEmpty) = true := by
          show (!(l.map fun (n : Nat) => PyData.int n).isEmpty) = true
          rw [ne]
          rfl
        refine iteT' ne2 ⟨_, rfl, jr, _, rfl, .inl ⟨SqL.of (se _ _ ej4), fun u hu => ⟨_, _, rfl, (tp_ints (l := l) upd_same).dp, shw, rfl, _, rfl, iteF' (same_false _) ⟨rfl, Same.trans se (same_new hu)⟩⟩⟩⟩
    rintro σ H5 ⟨rfl, s5⟩
    have g15 := Same.trans g14 s5
    have tf5 := tf.mono (Same.tk s5)
    refine ⟨_, rfl, _, rfl, ?_⟩
    match r1, r2, tv1.mono (Same.tk s5), tv2.mono (Same.tk s5), o1, o2, tf5 with
    | none, none, x1, x2, _, _, x3 =>
      obtain rfl := x1.non_inv
      obtain rfl := x3.non_inv
      exact iteF' (by rw [decide_eq_true rfl]; rfl) (iteF ⟨_, rfl, _, rfl, iteT' (decide_eq_true rfl) (k _ g15)⟩)
    | none, some (q2, ts2), x1, x2, _, _, x3 =>
      obtain rfl := x1.non_inv
      have x3' := x3
      obtain ⟨ta, rfl, _⟩ := Tp.ints_inv (l := [1]) x3
      refine iteF' (by rw [decide_eq_true rfl]; rfl) (iteF ⟨_, rfl, _, rfl, iteF' (decide_eq_false (fun z => by cases z)) ⟨_, rfl, (by show 1 ≤ sizeLine; decide), fun q hq => ⟨intsD [1], intsD [1], (x3'.mono (tk_new hq)).dp, (tp_ints (l := [1]) upd_same).dp, shap_ints _, shap_ints _, ?_⟩⟩⟩)
      rw [eq_ints]
      exact k _ (Same.trans g15 (same_new hq))
    | some (q1, ts1), none, x1, x2, _, _, x3 =>
      obtain ⟨xa, xx, rfl, _⟩ := x1.tup_inv
      obtain rfl := x2.non_inv
      have x3' := x3
      obtain ⟨ta, rfl, _⟩ := Tp.ints_inv (l := [1]) x3
      refine iteT' (by rw [decide_eq_false (fun z => by cases z)]; rfl) ⟨_, rfl, _, rfl, iteF' (by rw [decide_eq_true rfl]; rfl) ⟨_, rfl, _, rfl, iteF' (decide_eq_false (fun z => by cases z)) ⟨_, rfl, (by show 1 ≤ sizeLine; decide), fun q hq => ⟨intsD [1], intsD [1], (x3'.mono (tk_new hq)).dp, (tp_ints (l := [1]) upd_same).dp, shap_ints _, shap_ints _, ?_⟩⟩⟩⟩
      rw [eq_ints]
      exact k _ (Same.trans g15 (same_new hq))
    | some (q1, ts1), some (q2, ts2), x1, x2, o1, o2, x3 =>
      have x1' := x1
      have x2' := x2
      obtain ⟨xa, xx, rfl, _⟩ := x1.tup_inv
      obtain ⟨ya, yx, rfl, _⟩ := x2.tup_inv
      obtain ⟨l1, n1, m1, p1⟩ := o1 q1 ts1 rfl
      obtain ⟨l2, n2, m2, p2⟩ := o2 q2 ts2 rfl
      have f1 := shade27 m1
      have f2 := shade27 m2
      have f3 := shade_pos m2 n2
      refine iteT' (by rw [decide_eq_false (fun z => by cases z)]; rfl) ⟨_, rfl, _, rfl, iteT' (by rw [decide_eq_false (fun z => by cases z)]; rfl) ?_⟩
      refine ⟨_, rfl, _, rfl, _, _, ts1, rfl, x1', l1, n1, m1, by omega, fun h1 H6 g6 e1 => ?_⟩
      refine ⟨_, rfl, _, _, ts2, rfl, x2'.mono (Same.tk g6), l2, n2, m2, by omega, fun h2 H7 g7 e2 => ⟨((1 : Nat) : Int), rfl, ?_⟩⟩
      unfold tNoPart
      refine sl_drop (k := 1) (ds := (shadeL ts2).map fun (n : Nat) => .int n) (tp_ints e2) (by rw [List.length_map]; omega) fun v3 H8 g8 t3 => ?_
      have g78 := Same.trans g7 g8
      refine cat_tp (ds := (shadeL ts1).map fun (n : Nat) => .int n) ((tp_ints e1).mono (Same.tk g78)) t3 (by rw [List.length_map]; omega) (by rw [List.length_drop, List.length_map]; omega) fun v4 H9 g9 t4 => ?_
      have g69 := Same.trans (Same.trans g6 g78) g9
      have t4' : Tp H9 v4 (intsD (shadeL ts1 ++ (shadeL ts2).drop 1)) := by
        show Tp H9 v4 (.tuple ((shadeL ts1 ++ (shadeL ts2).drop 1).map fun (n : Nat) => .int n))
        rw [List.map_append, List.map_drop]
        exact t4
      refine ⟨intsD (shadeL ts1 ++ (shadeL ts2).drop 1), intsD (shadeL ts1 ++ (shadeL ts2).drop 1), (x3.mono (Same.tk g69)).dp, t4'.dp, shap_ints _, shap_ints _, ?_⟩
      rw [eq_ints]
      exact k _ (Same.trans g15 g69)
end

/-! ### the law of shadows of words -/
def spLaw (K : PySem.W.Frag) : Sp := fun vs H Q _ => ∃ (a : Addr) (ns : List Int), vs = [.ref a] ∧ SqL K H a (ns.map V.int) ∧ ∀ H', Q (.bl true) H'
def nLaw9 : List Str := ["script", "pen", "turn", "first", "second", "kinds", "before", "words", "word", "lap"]
theorem sc_law : FnScope nLaw9 ["script"] (fnScope st_law_) := fnScope_by (by decide +kernel)
theorem row0_at {H : Hp} {k S B : Nat} {W : Wr} {vr : V} (h : WOk k S B W) (hS : 1 ≤ S) (t : Tp H vr (.tuple (W.rules.map rowD))) : ∃ (ra r0 : Addr) (rx r0x : List V), vr = .ref ra ∧ H ra = some (.tup rx) ∧ rx[0]? = some (.ref r0) ∧ H r0 = some (.tup r0x) ∧ r0x.length = k := by
  obtain ⟨ra, rx, rfl, h1, h2⟩ := t.tup_inv
  have lr := h.r1
  obtain ⟨v, g1, g2⟩ := h2.at (List.getElem?_eq_getElem (show 0 < W.rules.length by omega))
  obtain ⟨r0, r0x, rfl, g3, g4⟩ := g2.tup_inv
  exact ⟨ra, r0, rx, r0x, rfl, h1, g1, g3, by rw [g4.len, List.length_map]; exact (h.r2 _ (List.getElem_mem _)).1⟩
section
variable {P : Program} {w : World} {K : PySem.W.Frag} {mg : Str → Option Value} {base : Heap} {f : Addr} {fd : FuncData}
set_option maxHeartbeats 20000000 in
theorem fn_law (F : C8.Fun K "law" "law" st_law_ f fd) (B : BN2 mg) (Br : mg "repr" = none) (Bx : mg "max" = none) (Bn : mg "min" = none) (Cpen : Cal P w K mg base 1 "_law_pen" (spPen K) []) (C2 : Cal P w K mg base 8 "_law_two" spTwo [])
    (Cws : Cal P w K mg base 1 "_law_words" spWords []) (Cwd : Cal P w K mg base 3 "_law_word" spWord []) (Cr : CalG P w K mg base 6 "_law_word_right" spWordRight) : FnG P w K mg base 9 f fd ["script"] (spLaw K) := by
  refine fnG_by F sc_law (fun vs H Q E h => ?_) (fun cdv A outer s H vs Q E gu hr h => ?_)
  · obtain ⟨a, ns, rfl, _⟩ := h
    rfl
  · obtain ⟨a, ns, rfl, hS, k⟩ := h
    refine ⟨_, pss_cons (ps_set (i := 1) sc_law.nd rfl (Or.inr rfl) (pe_c Cpen hr (by decide) (by rfl) (pa_cons (pv 0) pa_nil)))
      (pss_cons (ps_for PassesOwn.never rfl (pi_range1 rfl B.range (pa_cons (pe_callB (call_max2 rfl) (by rfl) Bx (by decide +kernel) (pa_cons pe_int (pa_cons (pe_callB (call_min2 rfl) (by rfl) Bn (by decide +kernel) (pa_cons pe_int (pa_cons (pe_callB call_len_seq (by rfl) B.len PySem.boot_len (pa_cons (pv 0) pa_nil)) pa_nil))) pa_nil))) pa_nil)) (pg_name (i := 2) sc_law.nd rfl (Or.inl rfl))
        (pss_cons (ps_asg (pe_c C2 hr (by decide) (by rfl) (pa_cons (pv 1) pa_nil)) (pg_tup rfl (pgs_cons (pg_name (i := 3) sc_law.nd rfl (Or.inl rfl)) (pgs_cons (pg_name (i := 4) sc_law.nd rfl (Or.inl rfl)) pgs_nil))))
        (pss_cons (ps_asg (pe_tup (pa_cons (pe_callB call_len_seq (by rfl) B.len PySem.boot_len (pa_cons (pe_ix ix_tup (pe_ix ix_tup (pv 3) pe_int (fun _ _ => rfl)) pe_int (fun _ _ => rfl)) pa_nil)) (pa_cons (pe_callB (call_repr gu hr.units) (by rfl) Br (by decide +kernel) (pa_cons (pe_tup (pa_cons (pv 3) (pa_cons (pv 4) pa_nil))) pa_nil)) pa_nil)))
            (pg_tup rfl (pgs_cons (pg_name (i := 5) sc_law.nd rfl (Or.inr rfl)) (pgs_cons (pg_name (i := 6) sc_law.nd rfl (Or.inl rfl)) pgs_nil))))
        (pss_cons (ps_set (i := 7) sc_law.nd rfl (Or.inl rfl) (pe_op op_cat (pe_c Cws hr (by decide) (by rfl) (pa_cons (pv 5) (pa_cons pe_int pa_nil))) (pe_lc (own := [("lap", 9)]) (g := gName 9) (tt := tYes) (by rfl) sc_law.nd (pi_range1 rfl B.range (pa_cons pe_int pa_nil))
            (blkOk_by (own := [("lap", 9)]) (N := nLaw9) (sc := fnScope st_law_) (by decide +kernel)) (fun _ _ _ _ _ => pg_name (i := 9) sc_law.nd rfl (Or.inl rfl)) (fun _ _ _ _ _ => pts_nil)
            (fun _ _ _ _ _ => pe_c Cwd hr (by decide) (by rfl) (pa_cons (pv 1) (pa_cons (pv 5) (pa_cons pe_int pa_nil)))))))
        (pss_cons (ps_for PassesOwn.never rfl (pi_list (pv 7)) (pg_name (i := 8) sc_law.nd rfl (Or.inl rfl))
          (pss_one (ps_if (PW.pt (pw_or (pt_not (pt_val (pe_g Cr gu hr (by decide) (by rfl) (pa_cons (pv 3) (pa_cons (pv 4) (pa_cons (pv 8) pa_nil)))))) (pw_or1 (pt_not (pt_val (pe_g Cr gu hr (by decide) (by rfl) (pa_cons (pv 4) (pa_cons (pv 3) (pa_cons (pv 8) pa_nil))))))))) (pss_one (ps_ret pe_bl)) pss_nil)))
        (pss_one (ps_if (PW.pt (pw_or (pt_not (pt_val (pe_g Cr gu hr (by decide) (by rfl) (pa_cons (pv 3) (pa_cons (pv 3) (pa_cons (pe_ix ix_list (pv 7) (pe_un un_neg pe_int) (fun _ _ => rfl)) pa_nil)))))) (pw_or1 (pt_cmpR op_ne (pe_callB (call_repr gu hr.units) (by rfl) Br (by decide +kernel) (pa_cons (pe_tup (pa_cons (pv 3) (pa_cons (pv 4) pa_nil))) pa_nil)) (pv 6) (nomark _))))) (pss_one (ps_ret pe_bl)) pss_nil)))))))
      (pss_one (ps_ret pe_bl))), ?_⟩
    refine ⟨_, rfl, a, ns, rfl, hS, fun H1 p c s1 hP p0 => ?_⟩
    have hS1 : SqL K H1 a (ns.map V.int) := by
      rcases hS with (z | ⟨o, z⟩) | z
      · exact .inl (.inl (s1 _ _ z))
      · exact .inl (.inr ⟨o, s1 _ _ z⟩)
      · exact .inr z
    refine ⟨_, rfl, a, _, rfl, .inl hS1, _, _, rfl, _, _, rfl, _, rfl, ?_, ?_, for_range (fun i σ H' => (∃ v2 v3 v4 v5 v6 v7 v8 v9 : Option V, σ = [some (.ref a), some (.ref p), v2, v3, v4, v5, v6, v7, v8, v9]) ∧ Pen H' p c) ⟨⟨_, _, _, _, _, _, _, _, rfl⟩, hP⟩ ?_ ?_⟩
    · split <;> split <;> omega
    · split <;> split <;> omega
    · rintro i σ H2 hi ⟨⟨v2, v3, v4, v5, v6, v7, v8, v9, rfl⟩, hP2⟩
      refine ⟨_, rfl, p, c, rfl, hP2, fun W1 W2 kk S1 B1 S2 B2 vp H3 kk1 kk3 a1 a2 b1 b2 a3 a4 b3 b4 hW1 hW2 k3 tp => ?_⟩
      obtain ⟨ta, tx, rfl, tp1, tp2⟩ := tp.tup_inv
      cases tp2 with
      | @cons x1 tx2 _ _ tW1 tp3 =>
      cases tp3 with
      | @cons x2 tx3 _ _ tW2 tp4 =>
      cases tp4
      refine ⟨ta, _, rfl, SqT.of tp1, rfl, _, _, rfl, _, _, rfl, rfl, ?_⟩
      have tW1' := tW1
      obtain ⟨wa, vb, vr, ve, rfl, wa1, tb, tr, te⟩ := tW1.w_inv
      obtain ⟨ra, r0, rx, r0x, rfl, ra1, ra2, r01, r0l⟩ := row0_at hW1 a1 tr
      have n1 := neat_W hW1 (by omega) (by omega) (by omega)
      have n2 := neat_W hW2 (by omega) (by omega) (by omega)
      have nn : Neat 7 90000 (.tuple [W1.d, W2.d]) := (NeatAll.cons n1 (NeatAll.cons n2 neatAll_nil)).tup.le (by decide) (by decide)
      refine ⟨_, rfl, wa, _, _, _, rfl, rfl, SqT.of wa1, atI_nat (j := 1) rfl, ra, rx, _, _, rfl, rfl, SqT.of ra1, atI_nat ra2, r0, _, rfl, .inr (SqT.of r01), ?_⟩
      refine ⟨_, rfl, _, rfl, (by show 2 ≤ sizeLine; decide), fun q1 hq1 => ?_⟩
      have sq1 := same_new (o := .tup [.ref wa, x2]) hq1
      refine ⟨_, .tuple [W1.d, W2.d], 7, 90000, rfl, (Tp.tup upd_same (.cons (tW1'.mono (Same.tk sq1)) (.cons (tW2.mono (Same.tk sq1)) .nil))).dp, nn, by decide, by decide, (by show 2 ≤ sizeLine; decide), fun q2 hq2 => ?_⟩
      rw [r0l]
      refine ⟨q2, _, rfl, SqT.of upd_same, rfl, _, _, rfl, _, _, rfl, rfl, ?_⟩
      have sq2 := Same.trans sq1 (same_new (o := .tup [.int kk, .str (PyData.tuple [W1.d, W2.d]).shown]) hq2)
      have kA := k3.same sq2
      have tA1 := tW1'.mono (Same.tk sq2)
      have tA2 := tW2.mono (Same.tk sq2)
      generalize upd (upd H3 q1 (.tup [.ref wa, x2])) q2 (.tup [.int kk, .str (PyData.tuple [W1.d, W2.d]).shown]) = H4 at kA tA1 tA2 ⊢
      have few : (wordsW kk 3).length ≤ 200 := by
        have e : kk = 1 ∨ kk = 2 ∨ kk = 3 := by omega
        rcases e with rfl | rfl | rfl <;> decide +kernel
      refine ⟨_, rfl, kk, 3, rfl, by omega, by decide, Nat.le_trans few (by decide), fun la H5 s5 la0 Lw => ?_⟩
      have kB := kA.same s5
      have tB1 := tA1.mono (Same.tk s5)
      have tB2 := tA2.mono (Same.tk s5)
      have nla : la ≠ p := kA.pen.ne la0
      refine ⟨3, rfl, by decide, by decide, fun D hD => ?_⟩
      have nD : D ≠ p := kB.pen.ne hD
      have nDc : D ≠ c := kB.pen.neC hD
      have nlD : la ≠ D := by
        obtain ⟨vs, h1, _⟩ := Lw
        exact ne_of_none h1 hD
      refine lc_range (lo := 0) (n := 3) (fun j H' => Pen H' p c ∧ TK H5 H' ∧ LAt H' la ((wordsW kk 3).map wordD) ∧ ∃ wds : List (List Nat), wds.length = j ∧ LAt H' D (wds.map wordD) ∧ ∀ u ∈ wds, (∀ y ∈ u, y < kk) ∧ u.length ≤ 12)
        ⟨kB.pen.new hD, tk_new hD, Lw.same (same_new hD), [], rfl, ⟨[], upd_same, .nil⟩, fun u hu => (by cases hu)⟩ ?_ ?_
      · rintro j H6 hj ⟨hP6, tk6, hLa, wds, wl, hL, hw⟩
        refine ⟨rfl, _, rfl, _, rfl, p, c, kk, 12, rfl, hP6, by omega, by omega, by decide, fun ks wt H7 wd k7 w0 hwt => ?_⟩
        obtain ⟨n1, rfl, l1, b1⟩ := iN_nat wd
        obtain ⟨us, hu, au⟩ := hL.kp nD hP6 k7
        have hLa7 := hLa.kp nla hP6 k7
        refine ⟨us, hu, ?_, k7.pen.put nD nDc, (tk6.trans (k7.tk hP6)).trans (tk_lst hu), hLa7.put hu nlD, wds ++ [n1], by rw [List.length_append, wl]; rfl, ?_, ?_⟩
        · rw [au.len, List.length_map, wl]
          exact Nat.lt_trans hj (by decide)
        · rw [List.map_append]
          exact LAt.push hu au (tp_word hwt)
        · intro u hm
          rcases List.mem_append.mp hm with hm | hm
          · exact hw u hm
          · rw [List.mem_singleton.mp hm]
            exact ⟨fun y hy => by have := b1 y hy; omega, l1⟩
      · rintro H6 ⟨hP6, tk6, hLa, wds, wl, hL, hw⟩
        obtain ⟨us, hu, au⟩ := hL
        obtain ⟨zs, hz, az⟩ := hLa
        have wl' : wds.length = 3 := wl
        have lu : us.length = 3 := by rw [au.len, List.length_map, wl']
        have lz : zs.length ≤ 200 := by rw [az.len, List.length_map]; exact few
        refine ⟨la, D, zs, us, rfl, rfl, hz, hu, Nat.le_trans (show zs.length + us.length ≤ 300 by omega) (by decide), fun lc hlc => ?_⟩
        have sc := same_new (o := .lst (zs ++ us)) hlc
        have hP7 := hP6.same sc
        have tC1 := (tB1.mono tk6).mono (Same.tk sc)
        have tC2 := (tB2.mono tk6).mono (Same.tk sc)
        have hLc : upd H6 lc (.lst (zs ++ us)) lc = some (.lst (zs ++ us)) := upd_same
        have aw : TpAll (upd H6 lc (.lst (zs ++ us))) (zs ++ us) ((wordsW kk 3 ++ wds).map wordD) := by
          rw [List.map_append]
          exact (az.mono (Same.tk sc)).app (au.mono (Same.tk sc))
        have hwa : ∀ u ∈ wordsW kk 3 ++ wds, (∀ y ∈ u, y < kk) ∧ u.length ≤ 12 := fun u hm => by
          rcases List.mem_append.mp hm with hm | hm
          · obtain ⟨e1, e2⟩ := wordsW_mem kk 3 u hm
            exact ⟨e2, by omega⟩
          · exact hw u hm
        have wpos : 0 < (wordsW kk 3 ++ wds).length := by
          rw [List.length_append]
          omega
        generalize wordsW kk 3 ++ wds = wa2 at *
        generalize zs ++ us = ws at *
        generalize upd H6 lc (.lst ws) = H7 at hP7 tC1 tC2 hLc aw ⊢
        have lws : ws.length = wa2.length := by rw [aw.len, List.length_map]
        refine ⟨_, rfl, lc, rfl, ⟨_, SqL.of hLc⟩, for_list (K := K) (a := lc) (xs := ws) (fun j σ H' => (∃ v8 : Option V, σ = [some (.ref a), some (.ref p), some (.int (0 + (i : Int))), some (.ref wa), some x2, some (.int kk), some (.str (PyData.tuple [W1.d, W2.d]).shown), some (.ref lc), v8, v9]) ∧ Same H7 H') ⟨⟨_, rfl⟩, Same.refl H7⟩ (fun j σ H' _ h => SqL.of (h.2 _ _ hLc)) ?_ ?_⟩
        · rintro j x σ H8 hj ⟨⟨v8', rfl⟩, s8⟩
          have jlt : j < wa2.length := by
            have q := (List.getElem?_eq_some_iff.mp hj).1
            omega
          obtain ⟨x', hx', txw⟩ := aw.at (List.getElem?_eq_getElem jlt)
          rw [hj] at hx'
          cases hx'
          obtain ⟨c1, c2⟩ := hwa _ (List.getElem_mem jlt)
          refine ⟨_, rfl, _, rfl, _, rfl, W1, W2, _, ⟨_, _, _, kk, S1, B1, S2, B2, rfl, tC1.mono (Same.tk s8), tC2.mono (Same.tk s8), txw.mono (Same.tk s8), hW1, hW2, a1, a3, b1, b2, b3, b4, c1, c2⟩, fun H9 s9 => ⟨_, rfl, iteF ?_⟩⟩
          have s89 := Same.trans s8 s9
          refine ⟨_, rfl, _, rfl, _, rfl, W2, W1, _, ⟨_, _, _, kk, S2, B2, S1, B1, rfl, tC2.mono (Same.tk s89), tC1.mono (Same.tk s89), txw.mono (Same.tk s89), hW2, hW1, a3, a1, b3, b4, b1, b2, c1, c2⟩, fun H10 s10 => ⟨_, rfl, iteF ?_⟩⟩
          exact ⟨⟨_, rfl⟩, Same.trans s89 s10⟩
        · rintro σ H8 ⟨⟨v8', rfl⟩, s8⟩
          have hlast : ∃ vl n, atI ws (-1) = some vl ∧ Tp H7 vl (wordD n) ∧ (∀ y ∈ n, y < kk) ∧ n.length ≤ 12 := by
            rcases List.eq_nil_or_concat ws with z | ⟨ws', y, e⟩
            · rw [z] at lws
              rw [← lws] at wpos
              cases wpos
            · rw [List.concat_eq_append] at e
              have jlt : ws'.length < wa2.length := by
                rw [← lws, e, List.length_append]
                exact Nat.lt_succ_self _
              obtain ⟨x', hx', txw⟩ := aw.at (List.getElem?_eq_getElem jlt)
              rw [e, List.getElem?_append_right (Nat.le_refl _), Nat.sub_self] at hx'
              obtain rfl : y = x' := Option.some.inj hx'
              obtain ⟨c1, c2⟩ := hwa _ (List.getElem_mem jlt)
              exact ⟨y, _, by rw [e]; exact atI_last _ _, txw, c1, c2⟩
          obtain ⟨vl, n, hl1, hl2, c1, c2⟩ := hlast
          refine ⟨_, rfl, _, rfl, _, rfl, _, rfl, lc, _, _, _, rfl, rfl, SqL.of (s8 _ _ hLc), hl1, W1, W1, n, ⟨_, _, _, kk, S1, B1, S1, B1, rfl, tC1.mono (Same.tk s8), tC1.mono (Same.tk s8), hl2.mono (Same.tk s8), hW1, hW1, a1, a1, b1, b2, b1, b2, c1, c2⟩, fun H9 s9 => ⟨_, rfl, iteF ?_⟩⟩
          have s89 := Same.trans s8 s9
          refine ⟨_, rfl, _, rfl, (by show 2 ≤ sizeLine; decide), fun q3 hq3 => ?_⟩
          have sq3 := Same.trans s89 (same_new (o := .tup [.ref wa, x2]) hq3)
          refine ⟨_, .tuple [W1.d, W2.d], 7, 90000, rfl, (Tp.tup upd_same (.cons (tC1.mono (Same.tk sq3)) (.cons (tC2.mono (Same.tk sq3)) .nil))).dp, nn, by decide, by decide, ?_⟩
          generalize (PyData.tuple [W1.d, W2.d]).shown = zz at *
          refine ⟨_, rfl, rfl, _, rfl, ?_⟩
          refine iteF' (same_false _) ?_
          exact ⟨⟨_, _, _, _, _, _, _, _, rfl⟩, hP7.same sq3⟩
    · rintro σ H2 ⟨⟨v2, v3, v4, v5, v6, v7, v8, v9, rfl⟩, hP2⟩
      exact k _
end

/-! ### what the top has written, the head -/
theorem all_mk {l : PySem.W.OpenLaw} {w : World} {K : PySem.W.Frag} {h : Heap} {mg : Str → Option Value} {fa f0 f1 f2 f3 f4 f5 f6 f7 f8 f9 f10 f11 f12 f13 f14 f15 f16 f17 f18 f19 f20 f21 f22 f23 f24 f25 f26 f27 f28 f29 f30 f31 f32 f33 f34 f35 f36 f37 : Addr} (X : K.In h) (G : h.Ns mainGlobals mg) (named : mg "law" = some (.ref fa))
    {od0 an0 od1 an1 od2 an2 od3 an3 od4 an4 od5 an5 od6 an6 od7 an7 od8 an8 od9 an9 od10 an10 od11 an11 od12 an12 od13 an13 od14 an14 od15 an15 od16 an16 od17 an17 od18 an18 od19 an19 od20 an20 od21 an21 od22 an22 od23 an23 od24 an24 od25 an25 od26 an26 od27 an27 od28 an28 od29 an29 od30 an30 od31 an31 od32 an32 od33 an33 od34 an34 od35 an35 od36 an36 od37 an37 : Option Addr} {sl0 sl1 sl2 sl3 sl4 sl5 sl6 sl7 sl8 sl9 sl10 sl11 sl12 sl13 sl14 sl15 sl16 sl17 sl18 sl19 sl20 sl21 sl22 sl23 sl24 sl25 sl26 sl27 sl28 sl29 sl30 sl31 sl32 sl33 sl34 sl35 sl36 sl37 : Array (Option Value)} {oc0 kV0 dc0 pm0 cd0 ct0 oc1 kV1 dc1 pm1 cd1 ct1 oc2 kV2 dc2 pm2 cd2 ct2 oc3 kV3 dc3 pm3 cd3 ct3 oc4 kV4 dc4 pm4 cd4 ct4 oc5 kV5 dc5 pm5 cd5 ct5 oc6 kV6 dc6 pm6 cd6 ct6 oc7 kV7 dc7 pm7 cd7 ct7 oc8 kV8 dc8 pm8 cd8 ct8 oc9 kV9 dc9 pm9 cd9 ct9 oc10 kV10 dc10 pm10 cd10 ct10 oc11 kV11 dc11 pm11 cd11 ct11 oc12 kV12 dc12 pm12 cd12 ct12 oc13 kV13 dc13 pm13 cd13 ct13 oc14 kV14 dc14 pm14 cd14 ct14 oc15 kV15 dc15 pm15 cd15 ct15 oc16 kV16 dc16 pm16 cd16 ct16 oc17 kV17 dc17 pm17 cd17 ct17 oc18 kV18 dc18 pm18 cd18 ct18 oc19 kV19 dc19 pm19 cd19 ct19 oc20 kV20 dc20 pm20 cd20 ct20 oc21 kV21 dc21 pm21 cd21 ct21 oc22 kV22 dc22 pm22 cd22 ct22 oc23 kV23 dc23 pm23 cd23 ct23 oc24 kV24 dc24 pm24 cd24 ct24 oc25 kV25 dc25 pm25 cd25 ct25 oc26 kV26 dc26 pm26 cd26 ct26 oc27 kV27 dc27 pm27 cd27 ct27 oc28 kV28 dc28 pm28 cd28 ct28 oc29 kV29 dc29 pm29 cd29 ct29 oc30 kV30 dc30 pm30 cd30 ct30 oc31 kV31 dc31 pm31 cd31 ct31 oc32 kV32 dc32 pm32 cd32 ct32 oc33 kV33 dc33 pm33 cd33 ct33 oc34 kV34 dc34 pm34 cd34 ct34 oc35 kV35 dc35 pm35 cd35 ct35 oc36 kV36 dc36 pm36 cd36 ct36 oc37 kV37 dc37 pm37 cd37 ct37 : Value}
    (a0 : PySem.W.nsIn K mainGlobals "behind" = some (some (.ref f0))) (l0 : K.lookup f0 = some ⟨oc0, od0, .func (PySem.W.fnOf "behind" "behind" (C8.fnArgs st_behind_) (fnBody st_behind_) (fnScope st_behind_) .none kV0 dc0 pm0 an0 cd0 ct0), sl0⟩) (c0 : PySem.W.codeIn K cd0 "behind" = true) (k0 : PySem.W.keepIn K (.ref f0) = true)
    (a1 : PySem.W.nsIn K mainGlobals "behind_from" = some (some (.ref f1))) (l1 : K.lookup f1 = some ⟨oc1, od1, .func (PySem.W.fnOf "behind_from" "behind_from" (C8.fnArgs st_behind_from_) (fnBody st_behind_from_) (fnScope st_behind_from_) .none kV1 dc1 pm1 an1 cd1 ct1), sl1⟩) (c1 : PySem.W.codeIn K cd1 "behind_from" = true) (k1 : PySem.W.keepIn K (.ref f1) = true)
    (a2 : PySem.W.nsIn K mainGlobals "_filled" = some (some (.ref f2))) (l2 : K.lookup f2 = some ⟨oc2, od2, .func (PySem.W.fnOf "_filled" "_filled" (C8.fnArgs st_filled) (fnBody st_filled) (fnScope st_filled) .none kV2 dc2 pm2 an2 cd2 ct2), sl2⟩) (c2 : PySem.W.codeIn K cd2 "_filled" = true) (k2 : PySem.W.keepIn K (.ref f2) = true)
    (a3 : PySem.W.nsIn K mainGlobals "_made" = some (some (.ref f3))) (l3 : K.lookup f3 = some ⟨oc3, od3, .func (PySem.W.fnOf "_made" "_made" (C8.fnArgs st_made) (fnBody st_made) (fnScope st_made) .none kV3 dc3 pm3 an3 cd3 ct3), sl3⟩) (c3 : PySem.W.codeIn K cd3 "_made" = true) (k3 : PySem.W.keepIn K (.ref f3) = true)
    (a4 : PySem.W.nsIn K mainGlobals "number_of" = some (some (.ref f4))) (l4 : K.lookup f4 = some ⟨oc4, od4, .func (PySem.W.fnOf "number_of" "number_of" (C8.fnArgs st_number_of_) (fnBody st_number_of_) (fnScope st_number_of_) .none kV4 dc4 pm4 an4 cd4 ct4), sl4⟩) (c4 : PySem.W.codeIn K cd4 "number_of" = true) (k4 : PySem.W.keepIn K (.ref f4) = true)
    (a5 : PySem.W.nsIn K mainGlobals "size_of" = some (some (.ref f5))) (l5 : K.lookup f5 = some ⟨oc5, od5, .func (PySem.W.fnOf "size_of" "size_of" (C8.fnArgs st_size_of_) (fnBody st_size_of_) (fnScope st_size_of_) .none kV5 dc5 pm5 an5 cd5 ct5), sl5⟩) (c5 : PySem.W.codeIn K cd5 "size_of" = true) (k5 : PySem.W.keepIn K (.ref f5) = true)
    (a6 : PySem.W.nsIn K mainGlobals "shadow" = some (some (.ref f6))) (l6 : K.lookup f6 = some ⟨oc6, od6, .func (PySem.W.fnOf "shadow" "shadow" (C8.fnArgs st_shadow_) (fnBody st_shadow_) (fnScope st_shadow_) .none kV6 dc6 pm6 an6 cd6 ct6), sl6⟩) (c6 : PySem.W.codeIn K cd6 "shadow" = true) (k6 : PySem.W.keepIn K (.ref f6) = true)
    (a7 : PySem.W.nsIn K mainGlobals "pair_shadow" = some (some (.ref f7))) (l7 : K.lookup f7 = some ⟨oc7, od7, .func (PySem.W.fnOf "pair_shadow" "pair_shadow" (C8.fnArgs st_pair_shadow_) (fnBody st_pair_shadow_) (fnScope st_pair_shadow_) .none kV7 dc7 pm7 an7 cd7 ct7), sl7⟩) (c7 : PySem.W.codeIn K cd7 "pair_shadow" = true) (k7 : PySem.W.keepIn K (.ref f7) = true)
    (a8 : PySem.W.nsIn K mainGlobals "power_of" = some (some (.ref f8))) (l8 : K.lookup f8 = some ⟨oc8, od8, .func (PySem.W.fnOf "power_of" "power_of" (C8.fnArgs st_power_of_) (fnBody st_power_of_) (fnScope st_power_of_) .none kV8 dc8 pm8 an8 cd8 ct8), sl8⟩) (c8 : PySem.W.codeIn K cd8 "power_of" = true) (k8 : PySem.W.keepIn K (.ref f8) = true)
    (a9 : PySem.W.nsIn K mainGlobals "measures_of" = some (some (.ref f9))) (l9 : K.lookup f9 = some ⟨oc9, od9, .func (PySem.W.fnOf "measures_of" "measures_of" (C8.fnArgs st_measures_of_) (fnBody st_measures_of_) (fnScope st_measures_of_) .none kV9 dc9 pm9 an9 cd9 ct9), sl9⟩) (c9 : PySem.W.codeIn K cd9 "measures_of" = true) (k9 : PySem.W.keepIn K (.ref f9) = true)
    (a10 : PySem.W.nsIn K mainGlobals "shadow_of" = some (some (.ref f10))) (l10 : K.lookup f10 = some ⟨oc10, od10, .func (PySem.W.fnOf "shadow_of" "shadow_of" (C8.fnArgs st_shadow_of_) (fnBody st_shadow_of_) (fnScope st_shadow_of_) .none kV10 dc10 pm10 an10 cd10 ct10), sl10⟩) (c10 : PySem.W.codeIn K cd10 "shadow_of" = true) (k10 : PySem.W.keepIn K (.ref f10) = true)
    (a11 : PySem.W.nsIn K mainGlobals "_law_pen" = some (some (.ref f11))) (l11 : K.lookup f11 = some ⟨oc11, od11, .func (PySem.W.fnOf "_law_pen" "_law_pen" (C8.fnArgs st_law_pen) (fnBody st_law_pen) (fnScope st_law_pen) .none kV11 dc11 pm11 an11 cd11 ct11), sl11⟩) (c11 : PySem.W.codeIn K cd11 "_law_pen" = true) (k11 : PySem.W.keepIn K (.ref f11) = true)
    (a12 : PySem.W.nsIn K mainGlobals "_law_fresh" = some (some (.ref f12))) (l12 : K.lookup f12 = some ⟨oc12, od12, .func (PySem.W.fnOf "_law_fresh" "_law_fresh" (C8.fnArgs st_law_fresh) (fnBody st_law_fresh) (fnScope st_law_fresh) .none kV12 dc12 pm12 an12 cd12 ct12), sl12⟩) (c12 : PySem.W.codeIn K cd12 "_law_fresh" = true) (k12 : PySem.W.keepIn K (.ref f12) = true)
    (a13 : PySem.W.nsIn K mainGlobals "_law_draw" = some (some (.ref f13))) (l13 : K.lookup f13 = some ⟨oc13, od13, .func (PySem.W.fnOf "_law_draw" "_law_draw" (C8.fnArgs st_law_draw) (fnBody st_law_draw) (fnScope st_law_draw) .none kV13 dc13 pm13 an13 cd13 ct13), sl13⟩) (c13 : PySem.W.codeIn K cd13 "_law_draw" = true) (k13 : PySem.W.keepIn K (.ref f13) = true)
    (a14 : PySem.W.nsIn K mainGlobals "_law_one_of" = some (some (.ref f14))) (l14 : K.lookup f14 = some ⟨oc14, od14, .func (PySem.W.fnOf "_law_one_of" "_law_one_of" (C8.fnArgs st_law_one_of) (fnBody st_law_one_of) (fnScope st_law_one_of) .none kV14 dc14 pm14 an14 cd14 ct14), sl14⟩) (c14 : PySem.W.codeIn K cd14 "_law_one_of" = true) (k14 : PySem.W.keepIn K (.ref f14) = true)
    (a15 : PySem.W.nsIn K mainGlobals "_law_piece" = some (some (.ref f15))) (l15 : K.lookup f15 = some ⟨oc15, od15, .func (PySem.W.fnOf "_law_piece" "_law_piece" (C8.fnArgs st_law_piece) (fnBody st_law_piece) (fnScope st_law_piece) .none kV15 dc15 pm15 an15 cd15 ct15), sl15⟩) (c15 : PySem.W.codeIn K cd15 "_law_piece" = true) (k15 : PySem.W.keepIn K (.ref f15) = true)
    (a16 : PySem.W.nsIn K mainGlobals "_law_normal" = some (some (.ref f16))) (l16 : K.lookup f16 = some ⟨oc16, od16, .func (PySem.W.fnOf "_law_normal" "_law_normal" (C8.fnArgs st_law_normal) (fnBody st_law_normal) (fnScope st_law_normal) .none kV16 dc16 pm16 an16 cd16 ct16), sl16⟩) (c16 : PySem.W.codeIn K cd16 "_law_normal" = true) (k16 : PySem.W.keepIn K (.ref f16) = true)
    (a17 : PySem.W.nsIn K mainGlobals "_law_fill" = some (some (.ref f17))) (l17 : K.lookup f17 = some ⟨oc17, od17, .func (PySem.W.fnOf "_law_fill" "_law_fill" (C8.fnArgs st_law_fill) (fnBody st_law_fill) (fnScope st_law_fill) .none kV17 dc17 pm17 an17 cd17 ct17), sl17⟩) (c17 : PySem.W.codeIn K cd17 "_law_fill" = true) (k17 : PySem.W.keepIn K (.ref f17) = true)
    (a18 : PySem.W.nsIn K mainGlobals "_law_fills" = some (some (.ref f18))) (l18 : K.lookup f18 = some ⟨oc18, od18, .func (PySem.W.fnOf "_law_fills" "_law_fills" (C8.fnArgs st_law_fills) (fnBody st_law_fills) (fnScope st_law_fills) .none kV18 dc18 pm18 an18 cd18 ct18), sl18⟩) (c18 : PySem.W.codeIn K cd18 "_law_fills" = true) (k18 : PySem.W.keepIn K (.ref f18) = true)
    (a19 : PySem.W.nsIn K mainGlobals "_law_end" = some (some (.ref f19))) (l19 : K.lookup f19 = some ⟨oc19, od19, .func (PySem.W.fnOf "_law_end" "_law_end" (C8.fnArgs st_law_end) (fnBody st_law_end) (fnScope st_law_end) .none kV19 dc19 pm19 an19 cd19 ct19), sl19⟩) (c19 : PySem.W.codeIn K cd19 "_law_end" = true) (k19 : PySem.W.keepIn K (.ref f19) = true)
    (a20 : PySem.W.nsIn K mainGlobals "_law_writer" = some (some (.ref f20))) (l20 : K.lookup f20 = some ⟨oc20, od20, .func (PySem.W.fnOf "_law_writer" "_law_writer" (C8.fnArgs st_law_writer) (fnBody st_law_writer) (fnScope st_law_writer) .none kV20 dc20 pm20 an20 cd20 ct20), sl20⟩) (c20 : PySem.W.codeIn K cd20 "_law_writer" = true) (k20 : PySem.W.keepIn K (.ref f20) = true)
    (a21 : PySem.W.nsIn K mainGlobals "_law_word" = some (some (.ref f21))) (l21 : K.lookup f21 = some ⟨oc21, od21, .func (PySem.W.fnOf "_law_word" "_law_word" (C8.fnArgs st_law_word) (fnBody st_law_word) (fnScope st_law_word) .none kV21 dc21 pm21 an21 cd21 ct21), sl21⟩) (c21 : PySem.W.codeIn K cd21 "_law_word" = true) (k21 : PySem.W.keepIn K (.ref f21) = true)
    (a22 : PySem.W.nsIn K mainGlobals "_law_words" = some (some (.ref f22))) (l22 : K.lookup f22 = some ⟨oc22, od22, .func (PySem.W.fnOf "_law_words" "_law_words" (C8.fnArgs st_law_words) (fnBody st_law_words) (fnScope st_law_words) .none kV22 dc22 pm22 an22 cd22 ct22), sl22⟩) (c22 : PySem.W.codeIn K cd22 "_law_words" = true) (k22 : PySem.W.keepIn K (.ref f22) = true)
    (a23 : PySem.W.nsIn K mainGlobals "_law_made" = some (some (.ref f23))) (l23 : K.lookup f23 = some ⟨oc23, od23, .func (PySem.W.fnOf "_law_made" "_law_made" (C8.fnArgs st_law_made) (fnBody st_law_made) (fnScope st_law_made) .none kV23 dc23 pm23 an23 cd23 ct23), sl23⟩) (c23 : PySem.W.codeIn K cd23 "_law_made" = true) (k23 : PySem.W.keepIn K (.ref f23) = true)
    (a24 : PySem.W.nsIn K mainGlobals "_law_onward" = some (some (.ref f24))) (l24 : K.lookup f24 = some ⟨oc24, od24, .func (PySem.W.fnOf "_law_onward" "_law_onward" (C8.fnArgs st_law_onward) (fnBody st_law_onward) (fnScope st_law_onward) .none kV24 dc24 pm24 an24 cd24 ct24), sl24⟩) (c24 : PySem.W.codeIn K cd24 "_law_onward" = true) (k24 : PySem.W.keepIn K (.ref f24) = true)
    (a25 : PySem.W.nsIn K mainGlobals "_law_behind" = some (some (.ref f25))) (l25 : K.lookup f25 = some ⟨oc25, od25, .func (PySem.W.fnOf "_law_behind" "_law_behind" (C8.fnArgs st_law_behind) (fnBody st_law_behind) (fnScope st_law_behind) .none kV25 dc25 pm25 an25 cd25 ct25), sl25⟩) (c25 : PySem.W.codeIn K cd25 "_law_behind" = true) (k25 : PySem.W.keepIn K (.ref f25) = true)
    (a26 : PySem.W.nsIn K mainGlobals "_law_renamed" = some (some (.ref f26))) (l26 : K.lookup f26 = some ⟨oc26, od26, .func (PySem.W.fnOf "_law_renamed" "_law_renamed" (C8.fnArgs st_law_renamed) (fnBody st_law_renamed) (fnScope st_law_renamed) .none kV26 dc26 pm26 an26 cd26 ct26), sl26⟩) (c26 : PySem.W.codeIn K cd26 "_law_renamed" = true) (k26 : PySem.W.keepIn K (.ref f26) = true)
    (a27 : PySem.W.nsIn K mainGlobals "_law_exchanged" = some (some (.ref f27))) (l27 : K.lookup f27 = some ⟨oc27, od27, .func (PySem.W.fnOf "_law_exchanged" "_law_exchanged" (C8.fnArgs st_law_exchanged) (fnBody st_law_exchanged) (fnScope st_law_exchanged) .none kV27 dc27 pm27 an27 cd27 ct27), sl27⟩) (c27 : PySem.W.codeIn K cd27 "_law_exchanged" = true) (k27 : PySem.W.keepIn K (.ref f27) = true)
    (a28 : PySem.W.nsIn K mainGlobals "_law_doubled" = some (some (.ref f28))) (l28 : K.lookup f28 = some ⟨oc28, od28, .func (PySem.W.fnOf "_law_doubled" "_law_doubled" (C8.fnArgs st_law_doubled) (fnBody st_law_doubled) (fnScope st_law_doubled) .none kV28 dc28 pm28 an28 cd28 ct28), sl28⟩) (c28 : PySem.W.codeIn K cd28 "_law_doubled" = true) (k28 : PySem.W.keepIn K (.ref f28) = true)
    (a29 : PySem.W.nsIn K mainGlobals "_law_burdened" = some (some (.ref f29))) (l29 : K.lookup f29 = some ⟨oc29, od29, .func (PySem.W.fnOf "_law_burdened" "_law_burdened" (C8.fnArgs st_law_burdened) (fnBody st_law_burdened) (fnScope st_law_burdened) .none kV29 dc29 pm29 an29 cd29 ct29), sl29⟩) (c29 : PySem.W.codeIn K cd29 "_law_burdened" = true) (k29 : PySem.W.keepIn K (.ref f29) = true)
    (a30 : PySem.W.nsIn K mainGlobals "_law_twin" = some (some (.ref f30))) (l30 : K.lookup f30 = some ⟨oc30, od30, .func (PySem.W.fnOf "_law_twin" "_law_twin" (C8.fnArgs st_law_twin) (fnBody st_law_twin) (fnScope st_law_twin) .none kV30 dc30 pm30 an30 cd30 ct30), sl30⟩) (c30 : PySem.W.codeIn K cd30 "_law_twin" = true) (k30 : PySem.W.keepIn K (.ref f30) = true)
    (a31 : PySem.W.nsIn K mainGlobals "_law_numbered" = some (some (.ref f31))) (l31 : K.lookup f31 = some ⟨oc31, od31, .func (PySem.W.fnOf "_law_numbered" "_law_numbered" (C8.fnArgs st_law_numbered) (fnBody st_law_numbered) (fnScope st_law_numbered) .none kV31 dc31 pm31 an31 cd31 ct31), sl31⟩) (c31 : PySem.W.codeIn K cd31 "_law_numbered" = true) (k31 : PySem.W.keepIn K (.ref f31) = true)
    (a32 : PySem.W.nsIn K mainGlobals "_law_shade" = some (some (.ref f32))) (l32 : K.lookup f32 = some ⟨oc32, od32, .func (PySem.W.fnOf "_law_shade" "_law_shade" (C8.fnArgs st_law_shade) (fnBody st_law_shade) (fnScope st_law_shade) .none kV32 dc32 pm32 an32 cd32 ct32), sl32⟩) (c32 : PySem.W.codeIn K cd32 "_law_shade" = true) (k32 : PySem.W.keepIn K (.ref f32) = true)
    (a33 : PySem.W.nsIn K mainGlobals "_law_joint" = some (some (.ref f33))) (l33 : K.lookup f33 = some ⟨oc33, od33, .func (PySem.W.fnOf "_law_joint" "_law_joint" (C8.fnArgs st_law_joint) (fnBody st_law_joint) (fnScope st_law_joint) .none kV33 dc33 pm33 an33 cd33 ct33), sl33⟩) (c33 : PySem.W.codeIn K cd33 "_law_joint" = true) (k33 : PySem.W.keepIn K (.ref f33) = true)
    (a34 : PySem.W.nsIn K mainGlobals "_law_near" = some (some (.ref f34))) (l34 : K.lookup f34 = some ⟨oc34, od34, .func (PySem.W.fnOf "_law_near" "_law_near" (C8.fnArgs st_law_near) (fnBody st_law_near) (fnScope st_law_near) .none kV34 dc34 pm34 an34 cd34 ct34), sl34⟩) (c34 : PySem.W.codeIn K cd34 "_law_near" = true) (k34 : PySem.W.keepIn K (.ref f34) = true)
    (a35 : PySem.W.nsIn K mainGlobals "_law_two" = some (some (.ref f35))) (l35 : K.lookup f35 = some ⟨oc35, od35, .func (PySem.W.fnOf "_law_two" "_law_two" (C8.fnArgs st_law_two) (fnBody st_law_two) (fnScope st_law_two) .none kV35 dc35 pm35 an35 cd35 ct35), sl35⟩) (c35 : PySem.W.codeIn K cd35 "_law_two" = true) (k35 : PySem.W.keepIn K (.ref f35) = true)
    (a36 : PySem.W.nsIn K mainGlobals "_law_word_right" = some (some (.ref f36))) (l36 : K.lookup f36 = some ⟨oc36, od36, .func (PySem.W.fnOf "_law_word_right" "_law_word_right" (C8.fnArgs st_law_word_right) (fnBody st_law_word_right) (fnScope st_law_word_right) .none kV36 dc36 pm36 an36 cd36 ct36), sl36⟩) (c36 : PySem.W.codeIn K cd36 "_law_word_right" = true) (k36 : PySem.W.keepIn K (.ref f36) = true)
    (a37 : PySem.W.nsIn K mainGlobals "law" = some (some (.ref f37))) (l37 : K.lookup f37 = some ⟨oc37, od37, .func (PySem.W.fnOf "law" "law" (C8.fnArgs st_law_) (fnBody st_law_) (fnScope st_law_) .none kV37 dc37 pm37 an37 cd37 ct37), sl37⟩) (c37 : PySem.W.codeIn K cd37 "law" = true) (k37 : PySem.W.keepIn K (.ref f37) = true)
    {t_BASE : Tok} (s_BASE : PySem.W.nsIn K mainGlobals "BASE" = some (some (.int 29 t_BASE)))
    (z_list : PySem.W.nsIn K mainGlobals "list" = some none)
    (z_int : PySem.W.nsIn K mainGlobals "int" = some none)
    (z_len : PySem.W.nsIn K mainGlobals "len" = some none)
    (z_range : PySem.W.nsIn K mainGlobals "range" = some none)
    (z_tuple : PySem.W.nsIn K mainGlobals "tuple" = some none)
    (z_isinstance : PySem.W.nsIn K mainGlobals "isinstance" = some none)
    (z_str : PySem.W.nsIn K mainGlobals "str" = some none)
    (z_repr : PySem.W.nsIn K mainGlobals "repr" = some none)
    (z_max : PySem.W.nsIn K mainGlobals "max" = some none)
    (z_min : PySem.W.nsIn K mainGlobals "min" = some none)
    (z_ord : PySem.W.nsIn K mainGlobals "ord" = some none) :
    ∃ fd : FuncData, (∀ (s : Shared) (u : Value), BindsTo s fd ⟨[u], []⟩ [("script", u)]) ∧ ∀ base : Heap, K.In base → base.Ns mainGlobals mg → FnG l.prog w K mg base 9 fa fd ["script"] (spLaw K) := by
  have e := named.symm.trans (PySem.W.mg_of X G a37)
  cases e
  have F0 : C8.Fun K "behind" "behind" st_behind_ f0 _ := ⟨⟨_, _, _, _, _, _, _, _, _, _, rfl, l0, c0⟩⟩
  have Dbehind : C8.Def K mg "behind" st_behind_ f0 _ := ⟨F0, PySem.W.mg_of X G a0, k0⟩
  have bbehind := F0.binds rfl (ps := ["writer", "word"]) fun _ _ _ _ _ _ us hl => match us, hl with | [_, _], _ => rfl
  have F1 : C8.Fun K "behind_from" "behind_from" st_behind_from_ f1 _ := ⟨⟨_, _, _, _, _, _, _, _, _, _, rfl, l1, c1⟩⟩
  have Dbehind_from : C8.Def K mg "behind_from" st_behind_from_ f1 _ := ⟨F1, PySem.W.mg_of X G a1, k1⟩
  have bbehind_from := F1.binds rfl (ps := ["writer", "situation", "word"]) fun _ _ _ _ _ _ us hl => match us, hl with | [_, _, _], _ => rfl
  have F2 : C8.Fun K "_filled" "_filled" st_filled f2 _ := ⟨⟨_, _, _, _, _, _, _, _, _, _, rfl, l2, c2⟩⟩
  have D_filled : C8.Def K mg "_filled" st_filled f2 _ := ⟨F2, PySem.W.mg_of X G a2, k2⟩
  have b_filled := F2.binds rfl (ps := ["fills", "texts"]) fun _ _ _ _ _ _ us hl => match us, hl with | [_, _], _ => rfl
  have F3 : C8.Fun K "_made" "_made" st_made f3 _ := ⟨⟨_, _, _, _, _, _, _, _, _, _, rfl, l3, c3⟩⟩
  have D_made : C8.Def K mg "_made" st_made f3 _ := ⟨F3, PySem.W.mg_of X G a3, k3⟩
  have b_made := F3.binds rfl (ps := ["recipe", "texts"]) fun _ _ _ _ _ _ us hl => match us, hl with | [_, _], _ => rfl
  have F4 : C8.Fun K "number_of" "number_of" st_number_of_ f4 _ := ⟨⟨_, _, _, _, _, _, _, _, _, _, rfl, l4, c4⟩⟩
  have Dnumber_of : C8.Def K mg "number_of" st_number_of_ f4 _ := ⟨F4, PySem.W.mg_of X G a4, k4⟩
  have bnumber_of := F4.binds rfl (ps := ["text"]) fun _ _ _ _ _ _ us hl => match us, hl with | [_], _ => rfl
  have F5 : C8.Fun K "size_of" "size_of" st_size_of_ f5 _ := ⟨⟨_, _, _, _, _, _, _, _, _, _, rfl, l5, c5⟩⟩
  have Dsize_of : C8.Def K mg "size_of" st_size_of_ f5 _ := ⟨F5, PySem.W.mg_of X G a5, k5⟩
  have bsize_of := F5.binds rfl (ps := ["text"]) fun _ _ _ _ _ _ us hl => match us, hl with | [_], _ => rfl
  have F6 : C8.Fun K "shadow" "shadow" st_shadow_ f6 _ := ⟨⟨_, _, _, _, _, _, _, _, _, _, rfl, l6, c6⟩⟩
  have Dshadow : C8.Def K mg "shadow" st_shadow_ f6 _ := ⟨F6, PySem.W.mg_of X G a6, k6⟩
  have bshadow := F6.binds rfl (ps := ["situation"]) fun _ _ _ _ _ _ us hl => match us, hl with | [_], _ => rfl
  have F7 : C8.Fun K "pair_shadow" "pair_shadow" st_pair_shadow_ f7 _ := ⟨⟨_, _, _, _, _, _, _, _, _, _, rfl, l7, c7⟩⟩
  have Dpair_shadow : C8.Def K mg "pair_shadow" st_pair_shadow_ f7 _ := ⟨F7, PySem.W.mg_of X G a7, k7⟩
  have bpair_shadow := F7.binds rfl (ps := ["first", "second", "word"]) fun _ _ _ _ _ _ us hl => match us, hl with | [_, _, _], _ => rfl
  have F8 : C8.Fun K "power_of" "power_of" st_power_of_ f8 _ := ⟨⟨_, _, _, _, _, _, _, _, _, _, rfl, l8, c8⟩⟩
  have Dpower_of : C8.Def K mg "power_of" st_power_of_ f8 _ := ⟨F8, PySem.W.mg_of X G a8, k8⟩
  have bpower_of := F8.binds rfl (ps := ["base", "many"]) fun _ _ _ _ _ _ us hl => match us, hl with | [_, _], _ => rfl
  have F9 : C8.Fun K "measures_of" "measures_of" st_measures_of_ f9 _ := ⟨⟨_, _, _, _, _, _, _, _, _, _, rfl, l9, c9⟩⟩
  have Dmeasures_of : C8.Def K mg "measures_of" st_measures_of_ f9 _ := ⟨F9, PySem.W.mg_of X G a9, k9⟩
  have bmeasures_of := F9.binds rfl (ps := ["texts"]) fun _ _ _ _ _ _ us hl => match us, hl with | [_], _ => rfl
  have F10 : C8.Fun K "shadow_of" "shadow_of" st_shadow_of_ f10 _ := ⟨⟨_, _, _, _, _, _, _, _, _, _, rfl, l10, c10⟩⟩
  have Dshadow_of : C8.Def K mg "shadow_of" st_shadow_of_ f10 _ := ⟨F10, PySem.W.mg_of X G a10, k10⟩
  have bshadow_of := F10.binds rfl (ps := ["measures"]) fun _ _ _ _ _ _ us hl => match us, hl with | [_], _ => rfl
  have F11 : C8.Fun K "_law_pen" "_law_pen" st_law_pen f11 _ := ⟨⟨_, _, _, _, _, _, _, _, _, _, rfl, l11, c11⟩⟩
  have D_law_pen : C8.Def K mg "_law_pen" st_law_pen f11 _ := ⟨F11, PySem.W.mg_of X G a11, k11⟩
  have b_law_pen := F11.binds rfl (ps := ["script"]) fun _ _ _ _ _ _ us hl => match us, hl with | [_], _ => rfl
  have F12 : C8.Fun K "_law_fresh" "_law_fresh" st_law_fresh f12 _ := ⟨⟨_, _, _, _, _, _, _, _, _, _, rfl, l12, c12⟩⟩
  have D_law_fresh : C8.Def K mg "_law_fresh" st_law_fresh f12 _ := ⟨F12, PySem.W.mg_of X G a12, k12⟩
  have b_law_fresh := F12.binds rfl (ps := ["pen"]) fun _ _ _ _ _ _ us hl => match us, hl with | [_], _ => rfl
  have F13 : C8.Fun K "_law_draw" "_law_draw" st_law_draw f13 _ := ⟨⟨_, _, _, _, _, _, _, _, _, _, rfl, l13, c13⟩⟩
  have D_law_draw : C8.Def K mg "_law_draw" st_law_draw f13 _ := ⟨F13, PySem.W.mg_of X G a13, k13⟩
  have b_law_draw := F13.binds rfl (ps := ["pen", "bound"]) fun _ _ _ _ _ _ us hl => match us, hl with | [_, _], _ => rfl
  have F14 : C8.Fun K "_law_one_of" "_law_one_of" st_law_one_of f14 _ := ⟨⟨_, _, _, _, _, _, _, _, _, _, rfl, l14, c14⟩⟩
  have D_law_one_of : C8.Def K mg "_law_one_of" st_law_one_of f14 _ := ⟨F14, PySem.W.mg_of X G a14, k14⟩
  have b_law_one_of := F14.binds rfl (ps := ["pen", "rows"]) fun _ _ _ _ _ _ us hl => match us, hl with | [_, _], _ => rfl
  have F15 : C8.Fun K "_law_piece" "_law_piece" st_law_piece f15 _ := ⟨⟨_, _, _, _, _, _, _, _, _, _, rfl, l15, c15⟩⟩
  have D_law_piece : C8.Def K mg "_law_piece" st_law_piece f15 _ := ⟨F15, PySem.W.mg_of X G a15, k15⟩
  have b_law_piece := F15.binds rfl (ps := ["pen", "most"]) fun _ _ _ _ _ _ us hl => match us, hl with | [_, _], _ => rfl
  have F16 : C8.Fun K "_law_normal" "_law_normal" st_law_normal f16 _ := ⟨⟨_, _, _, _, _, _, _, _, _, _, rfl, l16, c16⟩⟩
  have D_law_normal : C8.Def K mg "_law_normal" st_law_normal f16 _ := ⟨F16, PySem.W.mg_of X G a16, k16⟩
  have b_law_normal := F16.binds rfl (ps := ["parts"]) fun _ _ _ _ _ _ us hl => match us, hl with | [_], _ => rfl
  have F17 : C8.Fun K "_law_fill" "_law_fill" st_law_fill f17 _ := ⟨⟨_, _, _, _, _, _, _, _, _, _, rfl, l17, c17⟩⟩
  have D_law_fill : C8.Def K mg "_law_fill" st_law_fill f17 _ := ⟨F17, PySem.W.mg_of X G a17, k17⟩
  have b_law_fill := F17.binds rfl (ps := ["pen", "left", "own"]) fun _ _ _ _ _ _ us hl => match us, hl with | [_, _, _], _ => rfl
  have F18 : C8.Fun K "_law_fills" "_law_fills" st_law_fills f18 _ := ⟨⟨_, _, _, _, _, _, _, _, _, _, rfl, l18, c18⟩⟩
  have D_law_fills : C8.Def K mg "_law_fills" st_law_fills f18 _ := ⟨F18, PySem.W.mg_of X G a18, k18⟩
  have b_law_fills := F18.binds rfl (ps := ["pen", "buffers"]) fun _ _ _ _ _ _ us hl => match us, hl with | [_, _], _ => rfl
  have F19 : C8.Fun K "_law_end" "_law_end" st_law_end f19 _ := ⟨⟨_, _, _, _, _, _, _, _, _, _, rfl, l19, c19⟩⟩
  have D_law_end : C8.Def K mg "_law_end" st_law_end f19 _ := ⟨F19, PySem.W.mg_of X G a19, k19⟩
  have b_law_end := F19.binds rfl (ps := ["pen", "buffers"]) fun _ _ _ _ _ _ us hl => match us, hl with | [_, _], _ => rfl
  have F20 : C8.Fun K "_law_writer" "_law_writer" st_law_writer f20 _ := ⟨⟨_, _, _, _, _, _, _, _, _, _, rfl, l20, c20⟩⟩
  have D_law_writer : C8.Def K mg "_law_writer" st_law_writer f20 _ := ⟨F20, PySem.W.mg_of X G a20, k20⟩
  have b_law_writer := F20.binds rfl (ps := ["pen", "count", "states", "buffers"]) fun _ _ _ _ _ _ us hl => match us, hl with | [_, _, _, _], _ => rfl
  have F21 : C8.Fun K "_law_word" "_law_word" st_law_word f21 _ := ⟨⟨_, _, _, _, _, _, _, _, _, _, rfl, l21, c21⟩⟩
  have D_law_word : C8.Def K mg "_law_word" st_law_word f21 _ := ⟨F21, PySem.W.mg_of X G a21, k21⟩
  have b_law_word := F21.binds rfl (ps := ["pen", "count", "most"]) fun _ _ _ _ _ _ us hl => match us, hl with | [_, _, _], _ => rfl
  have F22 : C8.Fun K "_law_words" "_law_words" st_law_words f22 _ := ⟨⟨_, _, _, _, _, _, _, _, _, _, rfl, l22, c22⟩⟩
  have D_law_words : C8.Def K mg "_law_words" st_law_words f22 _ := ⟨F22, PySem.W.mg_of X G a22, k22⟩
  have b_law_words := F22.binds rfl (ps := ["count", "most"]) fun _ _ _ _ _ _ us hl => match us, hl with | [_, _], _ => rfl
  have F23 : C8.Fun K "_law_made" "_law_made" st_law_made f23 _ := ⟨⟨_, _, _, _, _, _, _, _, _, _, rfl, l23, c23⟩⟩
  have D_law_made : C8.Def K mg "_law_made" st_law_made f23 _ := ⟨F23, PySem.W.mg_of X G a23, k23⟩
  have b_law_made := F23.binds rfl (ps := ["recipe", "texts"]) fun _ _ _ _ _ _ us hl => match us, hl with | [_, _], _ => rfl
  have F24 : C8.Fun K "_law_onward" "_law_onward" st_law_onward f24 _ := ⟨⟨_, _, _, _, _, _, _, _, _, _, rfl, l24, c24⟩⟩
  have D_law_onward : C8.Def K mg "_law_onward" st_law_onward f24 _ := ⟨F24, PySem.W.mg_of X G a24, k24⟩
  have b_law_onward := F24.binds rfl (ps := ["writer", "situation", "kind"]) fun _ _ _ _ _ _ us hl => match us, hl with | [_, _, _], _ => rfl
  have F25 : C8.Fun K "_law_behind" "_law_behind" st_law_behind f25 _ := ⟨⟨_, _, _, _, _, _, _, _, _, _, rfl, l25, c25⟩⟩
  have D_law_behind : C8.Def K mg "_law_behind" st_law_behind f25 _ := ⟨F25, PySem.W.mg_of X G a25, k25⟩
  have b_law_behind := F25.binds rfl (ps := ["writer", "word"]) fun _ _ _ _ _ _ us hl => match us, hl with | [_, _], _ => rfl
  have F26 : C8.Fun K "_law_renamed" "_law_renamed" st_law_renamed f26 _ := ⟨⟨_, _, _, _, _, _, _, _, _, _, rfl, l26, c26⟩⟩
  have D_law_renamed : C8.Def K mg "_law_renamed" st_law_renamed f26 _ := ⟨F26, PySem.W.mg_of X G a26, k26⟩
  have b_law_renamed := F26.binds rfl (ps := ["recipe", "names"]) fun _ _ _ _ _ _ us hl => match us, hl with | [_, _], _ => rfl
  have F27 : C8.Fun K "_law_exchanged" "_law_exchanged" st_law_exchanged f27 _ := ⟨⟨_, _, _, _, _, _, _, _, _, _, rfl, l27, c27⟩⟩
  have D_law_exchanged : C8.Def K mg "_law_exchanged" st_law_exchanged f27 _ := ⟨F27, PySem.W.mg_of X G a27, k27⟩
  have b_law_exchanged := F27.binds rfl (ps := ["writer"]) fun _ _ _ _ _ _ us hl => match us, hl with | [_], _ => rfl
  have F28 : C8.Fun K "_law_doubled" "_law_doubled" st_law_doubled f28 _ := ⟨⟨_, _, _, _, _, _, _, _, _, _, rfl, l28, c28⟩⟩
  have D_law_doubled : C8.Def K mg "_law_doubled" st_law_doubled f28 _ := ⟨F28, PySem.W.mg_of X G a28, k28⟩
  have b_law_doubled := F28.binds rfl (ps := ["pen", "writer"]) fun _ _ _ _ _ _ us hl => match us, hl with | [_, _], _ => rfl
  have F29 : C8.Fun K "_law_burdened" "_law_burdened" st_law_burdened f29 _ := ⟨⟨_, _, _, _, _, _, _, _, _, _, rfl, l29, c29⟩⟩
  have D_law_burdened : C8.Def K mg "_law_burdened" st_law_burdened f29 _ := ⟨F29, PySem.W.mg_of X G a29, k29⟩
  have b_law_burdened := F29.binds rfl (ps := ["pen", "writer"]) fun _ _ _ _ _ _ us hl => match us, hl with | [_, _], _ => rfl
  have F30 : C8.Fun K "_law_twin" "_law_twin" st_law_twin f30 _ := ⟨⟨_, _, _, _, _, _, _, _, _, _, rfl, l30, c30⟩⟩
  have D_law_twin : C8.Def K mg "_law_twin" st_law_twin f30 _ := ⟨F30, PySem.W.mg_of X G a30, k30⟩
  have b_law_twin := F30.binds rfl (ps := ["pen", "writer"]) fun _ _ _ _ _ _ us hl => match us, hl with | [_, _], _ => rfl
  have F31 : C8.Fun K "_law_numbered" "_law_numbered" st_law_numbered f31 _ := ⟨⟨_, _, _, _, _, _, _, _, _, _, rfl, l31, c31⟩⟩
  have D_law_numbered : C8.Def K mg "_law_numbered" st_law_numbered f31 _ := ⟨F31, PySem.W.mg_of X G a31, k31⟩
  have b_law_numbered := F31.binds rfl (ps := ["text"]) fun _ _ _ _ _ _ us hl => match us, hl with | [_], _ => rfl
  have F32 : C8.Fun K "_law_shade" "_law_shade" st_law_shade f32 _ := ⟨⟨_, _, _, _, _, _, _, _, _, _, rfl, l32, c32⟩⟩
  have D_law_shade : C8.Def K mg "_law_shade" st_law_shade f32 _ := ⟨F32, PySem.W.mg_of X G a32, k32⟩
  have b_law_shade := F32.binds rfl (ps := ["situation"]) fun _ _ _ _ _ _ us hl => match us, hl with | [_], _ => rfl
  have F33 : C8.Fun K "_law_joint" "_law_joint" st_law_joint f33 _ := ⟨⟨_, _, _, _, _, _, _, _, _, _, rfl, l33, c33⟩⟩
  have D_law_joint : C8.Def K mg "_law_joint" st_law_joint f33 _ := ⟨F33, PySem.W.mg_of X G a33, k33⟩
  have b_law_joint := F33.binds rfl (ps := ["one", "two"]) fun _ _ _ _ _ _ us hl => match us, hl with | [_, _], _ => rfl
  have F34 : C8.Fun K "_law_near" "_law_near" st_law_near f34 _ := ⟨⟨_, _, _, _, _, _, _, _, _, _, rfl, l34, c34⟩⟩
  have D_law_near : C8.Def K mg "_law_near" st_law_near f34 _ := ⟨F34, PySem.W.mg_of X G a34, k34⟩
  have b_law_near := F34.binds rfl (ps := ["pen", "writer"]) fun _ _ _ _ _ _ us hl => match us, hl with | [_, _], _ => rfl
  have F35 : C8.Fun K "_law_two" "_law_two" st_law_two f35 _ := ⟨⟨_, _, _, _, _, _, _, _, _, _, rfl, l35, c35⟩⟩
  have D_law_two : C8.Def K mg "_law_two" st_law_two f35 _ := ⟨F35, PySem.W.mg_of X G a35, k35⟩
  have b_law_two := F35.binds rfl (ps := ["pen"]) fun _ _ _ _ _ _ us hl => match us, hl with | [_], _ => rfl
  have F36 : C8.Fun K "_law_word_right" "_law_word_right" st_law_word_right f36 _ := ⟨⟨_, _, _, _, _, _, _, _, _, _, rfl, l36, c36⟩⟩
  have D_law_word_right : C8.Def K mg "_law_word_right" st_law_word_right f36 _ := ⟨F36, PySem.W.mg_of X G a36, k36⟩
  have b_law_word_right := F36.binds rfl (ps := ["first", "second", "word"]) fun _ _ _ _ _ _ us hl => match us, hl with | [_, _, _], _ => rfl
  have F37 : C8.Fun K "law" "law" st_law_ _ _ := ⟨⟨_, _, _, _, _, _, _, _, _, _, rfl, l37, c37⟩⟩
  have m_list := PySem.W.mg_none_of X G z_list
  have m_int := PySem.W.mg_none_of X G z_int
  have m_len := PySem.W.mg_none_of X G z_len
  have m_range := PySem.W.mg_none_of X G z_range
  have m_tuple := PySem.W.mg_none_of X G z_tuple
  have m_isinstance := PySem.W.mg_none_of X G z_isinstance
  have m_str := PySem.W.mg_none_of X G z_str
  have m_repr := PySem.W.mg_none_of X G z_repr
  have m_max := PySem.W.mg_none_of X G z_max
  have m_min := PySem.W.mg_none_of X G z_min
  have m_ord := PySem.W.mg_none_of X G z_ord
  have B : BN2 mg := { list := m_list, int := m_int, len := m_len, range := m_range, tuple := m_tuple, isi := m_isinstance, str := m_str }
  have N : NB mg := { base := ⟨_, PySem.W.mg_of X G s_BASE⟩ }
  refine ⟨PySem.W.fnOf "law" "law" (C8.fnArgs st_law_) (fnBody st_law_) (fnScope st_law_) .none kV37 dc37 pm37 an37 cd37 ct37, fun s u => .of_eq rfl, fun base _ _ => ?_⟩
  have cpen : Cal l.prog w K mg base 1 "_law_pen" (spPen K) [] := cal_pen D_law_pen b_law_pen B.toBN
  have cfresh : Cal l.prog w K mg base 1 "_law_fresh" spFresh [] := cal_fresh D_law_fresh b_law_fresh B.toBN
  have cdraw : Cal l.prog w K mg base 2 "_law_draw" spDraw [] := cal_draw D_law_draw b_law_draw B.toBN cfresh
  have cone : Cal l.prog w K mg base 3 "_law_one_of" (spOne K) [] := cal_one D_law_one_of b_law_one_of B.toBN cdraw
  have cpiece : Cal l.prog w K mg base 4 "_law_piece" spPiece [] := cal_piece D_law_piece b_law_piece B.toBN cdraw cone
  have cnormal : Cal l.prog w K mg base 1 "_law_normal" (spNormal K) [] := cal_normal D_law_normal b_law_normal B
  have cnormalT : Cal l.prog w K mg base 1 "_law_normal" spNormalT [] := cal_normalT D_law_normal b_law_normal B
  have cfill : Cal l.prog w K mg base 5 "_law_fill" spFill [] := cal_fill D_law_fill b_law_fill B cdraw cone cpiece cnormal
  have cfills : Cal l.prog w K mg base 6 "_law_fills" spFills [] := cal_fills D_law_fills b_law_fills B cdraw cfill
  have cend : Cal l.prog w K mg base 6 "_law_end" spEnd [] := cal_end D_law_end b_law_end B cdraw cfill
  have cwriter : Cal l.prog w K mg base 7 "_law_writer" spWriterT [] := cal_writerT D_law_writer b_law_writer B cdraw cpiece cfills cend
  have cword : Cal l.prog w K mg base 3 "_law_word" spWord [] := cal_word D_law_word b_law_word B.toBN B.tuple cdraw
  have cwords : Cal l.prog w K mg base 1 "_law_words" spWords [] := cal_words D_law_words b_law_words B
  have cren : Cal l.prog w K mg base 1 "_law_renamed" spRenamed [] := cal_renamed D_law_renamed b_law_renamed B
  have cexc : Cal l.prog w K mg base 2 "_law_exchanged" spExchanged [] := cal_exchanged D_law_exchanged b_law_exchanged B cren
  have cdou : Cal l.prog w K mg base 3 "_law_doubled" spDoubled [] := cal_doubled D_law_doubled b_law_doubled B cdraw
  have cbur : Cal l.prog w K mg base 5 "_law_burdened" spBurdened [] := cal_burdened D_law_burdened b_law_burdened B cone cpiece
  have ctwin : Cal l.prog w K mg base 6 "_law_twin" spTwin [] := cal_twin D_law_twin b_law_twin B cdraw cexc cdou cbur
  have cnear : Cal l.prog w K mg base 7 "_law_near" spNear [] := cal_near D_law_near b_law_near B cdraw cpiece cfills cend cnormalT
  have ctwo : Cal l.prog w K mg base 8 "_law_two" spTwo [] := cal_two D_law_two b_law_two B cdraw cone cwriter cexc ctwin cnear
  have cmade : Cal l.prog w K mg base 1 "_made" spMade [] := cal_made D_made b_made B
  have clmade : Cal l.prog w K mg base 1 "_law_made" spMade [] := cal_law_made D_law_made b_law_made B
  have cfilled : Cal l.prog w K mg base 2 "_filled" spFilled [] := cal_filled D_filled b_filled B cmade
  have cbf : Cal l.prog w K mg base 3 "behind_from" spBehindF [] := cal_behind_from_ Dbehind_from bbehind_from cfilled
  have cbehind : Cal l.prog w K mg base 4 "behind" spBehind [] := cal_behind_ Dbehind bbehind cbf
  have conward : Cal l.prog w K mg base 2 "_law_onward" spOnward [] := cal_onward D_law_onward b_law_onward B clmade
  have clbehind : Cal l.prog w K mg base 3 "_law_behind" spBehind [] := cal_lbehind D_law_behind b_law_behind conward
  have cnum : Cal l.prog w K mg base 1 "_law_numbered" spNumbered [] := cal_numbered D_law_numbered b_law_numbered m_ord
  have cshade : Cal l.prog w K mg base 2 "_law_shade" spShade [] := cal_shade D_law_shade b_law_shade cnum
  have cjoint : Cal l.prog w K mg base 3 "_law_joint" spJoint [] := cal_joint D_law_joint b_law_joint cshade
  have cpow : Cal l.prog w K mg base 1 "power_of" spPow29 [] := cal_power_of_ Dpower_of bpower_of
  have cn1 : Cal l.prog w K mg base 1 "number_of" spNumOf [] := cal_number_of_ 0 Dnumber_of bnumber_of N m_ord
  have cs1 : Cal l.prog w K mg base 2 "size_of" spSizeOf [] := cal_size_of_ 0 Dsize_of bsize_of N m_len cpow
  have cme : Cal l.prog w K mg base 3 "measures_of" spMeasures [] := cal_measures_of_ Dmeasures_of bmeasures_of m_tuple cs1 cn1
  have cso : Cal l.prog w K mg base 1 "shadow_of" spShadowOf [] := cal_shadow_of_ Dshadow_of bshadow_of m_tuple
  have ch : Cal l.prog w K mg base 4 "shadow" spShadow [] := cal_shadow_ Dshadow bshadow cme cso
  have cpair : Cal l.prog w K mg base 5 "pair_shadow" spPair [] := cal_pair_shadow_ Dpair_shadow bpair_shadow cbehind ch
  have cwr : CalG l.prog w K mg base 6 "_law_word_right" spWordRight := ⟨_, _, _, fn_word_right F36 B m_repr clbehind cjoint cpair ch, PySem.W.mg_of X G a36, k36, b_law_word_right⟩
  exact fn_law F37 B m_repr m_max m_min cpen ctwo cwords cword cwr
end Toy

open PySem PySem.W PyProof.Rows in
set_option maxRecDepth 100000 in
set_option maxHeartbeats 0 in
theorem PySem.Challenge.cw_fewtests_k09_shadows_of_words_holds : PySem.Challenge.rw_fewtests_k09_shadows_of_words.Holds := by
  w_on; o_law; k_head; (case hw => w_witness2)
  k_fill
  refine Toy.walkG (l := PySem.Challenge.rw_fewtests_k09_shadows_of_words) (k := 9) (sp := Toy.spLaw) (x := "script") rfl rfl ⟨rfl, by decide, by decide⟩ (fun w h Y => PySem.W.kIn_of Y) ?F (fun K H a ns few sq => ⟨a, ns, rfl, sq, fun _ => rfl⟩)
  case F =>
    intro w mg fa h KX G hmg
    refine' Toy.all_mk KX G hmg ?a0 ?l0 ?c0 ?k0 ?a1 ?l1 ?c1 ?k1 ?a2 ?l2 ?c2 ?k2 ?a3 ?l3 ?c3 ?k3 ?a4 ?l4 ?c4 ?k4 ?a5 ?l5 ?c5 ?k5 ?a6 ?l6 ?c6 ?k6 ?a7 ?l7 ?c7 ?k7 ?a8 ?l8 ?c8 ?k8 ?a9 ?l9 ?c9 ?k9 ?a10 ?l10 ?c10 ?k10 ?a11 ?l11 ?c11 ?k11 ?a12 ?l12 ?c12 ?k12 ?a13 ?l13 ?c13 ?k13 ?a14 ?l14 ?c14 ?k14 ?a15 ?l15 ?c15 ?k15 ?a16 ?l16 ?c16 ?k16 ?a17 ?l17 ?c17 ?k17 ?a18 ?l18 ?c18 ?k18 ?a19 ?l19 ?c19 ?k19 ?a20 ?l20 ?c20 ?k20 ?a21 ?l21 ?c21 ?k21 ?a22 ?l22 ?c22 ?k22 ?a23 ?l23 ?c23 ?k23 ?a24 ?l24 ?c24 ?k24 ?a25 ?l25 ?c25 ?k25 ?a26 ?l26 ?c26 ?k26 ?a27 ?l27 ?c27 ?k27 ?a28 ?l28 ?c28 ?k28 ?a29 ?l29 ?c29 ?k29 ?a30 ?l30 ?c30 ?k30 ?a31 ?l31 ?c31 ?k31 ?a32 ?l32 ?c32 ?k32 ?a33 ?l33 ?c33 ?k33 ?a34 ?l34 ?c34 ?k34 ?a35 ?l35 ?c35 ?k35 ?a36 ?l36 ?c36 ?k36 ?a37 ?l37 ?c37 ?k37 ?s_BASE ?z_list ?z_int ?z_len ?z_range ?z_tuple ?z_isinstance ?z_str ?z_repr ?z_max ?z_min ?z_ord
    (case a0 => k_is)
    (case l0 => k_is)
    (case c0 => k_is)
    (case k0 => k_is)
    (case a1 => k_is)
    (case l1 => k_is)
    (case c1 => k_is)
    (case k1 => k_is)
    (case a2 => k_is)
    (case l2 => k_is)
    (case c2 => k_is)
    (case k2 => k_is)
    (case a3 => k_is)
    (case l3 => k_is)
    (case c3 => k_is)
    (case k3 => k_is)
    (case a4 => k_is)
    (case l4 => k_is)
    (case c4 => k_is)
    (case k4 => k_is)
    (case a5 => k_is)
    (case l5 => k_is)
    (case c5 => k_is)
    (case k5 => k_is)
    (case a6 => k_is)
    (case l6 => k_is)
    (case c6 => k_is)
    (case k6 => k_is)
    (case a7 => k_is)
    (case l7 => k_is)
    (case c7 => k_is)
    (case k7 => k_is)
    (case a8 => k_is)
    (case l8 => k_is)
    (case c8 => k_is)
    (case k8 => k_is)
    (case a9 => k_is)
    (case l9 => k_is)
    (case c9 => k_is)
    (case k9 => k_is)
    (case a10 => k_is)
    (case l10 => k_is)
    (case c10 => k_is)
    (case k10 => k_is)
    (case a11 => k_is)
    (case l11 => k_is)
    (case c11 => k_is)
    (case k11 => k_is)
    (case a12 => k_is)
    (case l12 => k_is)
    (case c12 => k_is)
    (case k12 => k_is)
    (case a13 => k_is)
    (case l13 => k_is)
    (case c13 => k_is)
    (case k13 => k_is)
    (case a14 => k_is)
    (case l14 => k_is)
    (case c14 => k_is)
    (case k14 => k_is)
    (case a15 => k_is)
    (case l15 => k_is)
    (case c15 => k_is)
    (case k15 => k_is)
    (case a16 => k_is)
    (case l16 => k_is)
    (case c16 => k_is)
    (case k16 => k_is)
    (case a17 => k_is)
    (case l17 => k_is)
    (case c17 => k_is)
    (case k17 => k_is)
    (case a18 => k_is)
    (case l18 => k_is)
    (case c18 => k_is)
    (case k18 => k_is)
    (case a19 => k_is)
    (case l19 => k_is)
    (case c19 => k_is)
    (case k19 => k_is)
    (case a20 => k_is)
    (case l20 => k_is)
    (case c20 => k_is)
    (case k20 => k_is)
    (case a21 => k_is)
    (case l21 => k_is)
    (case c21 => k_is)
    (case k21 => k_is)
    (case a22 => k_is)
    (case l22 => k_is)
    (case c22 => k_is)
    (case k22 => k_is)
    (case a23 => k_is)
    (case l23 => k_is)
    (case c23 => k_is)
    (case k23 => k_is)
    (case a24 => k_is)
    (case l24 => k_is)
    (case c24 => k_is)
    (case k24 => k_is)
    (case a25 => k_is)
    (case l25 => k_is)
    (case c25 => k_is)
    (case k25 => k_is)
    (case a26 => k_is)
    (case l26 => k_is)
    (case c26 => k_is)
    (case k26 => k_is)
    (case a27 => k_is)
    (case l27 => k_is)
    (case c27 => k_is)
    (case k27 => k_is)
    (case a28 => k_is)
    (case l28 => k_is)
    (case c28 => k_is)
    (case k28 => k_is)
    (case a29 => k_is)
    (case l29 => k_is)
    (case c29 => k_is)
    (case k29 => k_is)
    (case a30 => k_is)
    (case l30 => k_is)
    (case c30 => k_is)
    (case k30 => k_is)
    (case a31 => k_is)
    (case l31 => k_is)
    (case c31 => k_is)
    (case k31 => k_is)
    (case a32 => k_is)
    (case l32 => k_is)
    (case c32 => k_is)
    (case k32 => k_is)
    (case a33 => k_is)
    (case l33 => k_is)
    (case c33 => k_is)
    (case k33 => k_is)
    (case a34 => k_is)
    (case l34 => k_is)
    (case c34 => k_is)
    (case k34 => k_is)
    (case a35 => k_is)
    (case l35 => k_is)
    (case c35 => k_is)
    (case k35 => k_is)
    (case a36 => k_is)
    (case l36 => k_is)
    (case c36 => k_is)
    (case k36 => k_is)
    (case a37 => k_is)
    (case l37 => k_is)
    (case c37 => k_is)
    (case k37 => k_is)
    (case s_BASE => k_is)
    (case z_list => k_is)
    (case z_int => k_is)
    (case z_len => k_is)
    (case z_range => k_is)
    (case z_tuple => k_is)
    (case z_isinstance => k_is)
    (case z_str => k_is)
    (case z_repr => k_is)
    (case z_max => k_is)
    (case z_min => k_is)
    (case z_ord => k_is)
