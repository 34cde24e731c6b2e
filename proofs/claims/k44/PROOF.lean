import PyProof.Rows.All
import Wide.All
import OpenK.AllK
import Wide.FinOn
import PyProof.Draws
import PyProof.Rows.SortShellAny
import HandS.Codes
import HandS.Conv
import HandS.DictComp
import HandS.ExcValue
import HandS.Flow
import HandS.ForMost
import HandS.GenList
import HandS.GenYield
import HandS.IsInst
import HandS.Replace
import HandS.Star
import HandS.Style
import HandS.TupAny
import HandS.TupMul
import HandS.Wide
import HandS.WideBits
import HandS.Zip
import PySem.Challenge.RW_fewtests_k44_whole_fates_tell_the_letter
set_option Elab.async false
set_option linter.all false
set_option maxRecDepth 100000
set_option maxHeartbeats 2000000
set_option pp.maxSteps 1500
set_option pp.deepTerms false
namespace Toy
open PySem L2
open C8 (Cal cal0 pe_c pss_cut fnScope fnBody fnScope_by)
/-! ### the text by places -/
def top (i : Nat) : Stmt := PySem.Challenge.pw_fewtests_k44_whole_fates_tell_the_letter.main.body.getD i (.Pass ⟨0, 0, 0, 0⟩)
abbrev st_text_for_ : Stmt := top 1
abbrev st_behind_from_ : Stmt := top 2
abbrev st_text_from_ : Stmt := top 3
abbrev st_filled : Stmt := top 4
abbrev st_made : Stmt := top 5
abbrev st_fates_ : Stmt := top 7
abbrev st_entries_along_ : Stmt := top 8
abbrev st_fates_at_end_ : Stmt := top 9
abbrev st_fates_before_ : Stmt := top 10
abbrev st_law_pen : Stmt := top 12
abbrev st_law_fresh : Stmt := top 13
abbrev st_law_draw : Stmt := top 14
abbrev st_law_one_of : Stmt := top 15
abbrev st_law_piece : Stmt := top 16
abbrev st_law_normal : Stmt := top 17
abbrev st_law_fill : Stmt := top 18
abbrev st_law_fills : Stmt := top 19
abbrev st_law_end : Stmt := top 20
abbrev st_law_writer : Stmt := top 21
abbrev st_law_word : Stmt := top 22
abbrev st_law_words : Stmt := top 23
abbrev st_law_made : Stmt := top 24
abbrev st_law_onward : Stmt := top 25
abbrev st_law_behind : Stmt := top 26
abbrev st_law_told : Stmt := top 27
abbrev st_law_pieces : Stmt := top 28
abbrev st_law_letters : Stmt := top 29
abbrev st_law_right : Stmt := top 30
abbrev st_law_ : Stmt := top 31

theorem iteT' {b : Bool} {A B : Prop} (e : b = true) (h : A) : if b = true then A else B := by
  rw [if_pos e]
  exact h
theorem iteF' {b : Bool} {A B : Prop} (e : b = false) (h : B) : if b = true then A else B := by
  rw [e]
  exact iteF h
/-! ### the pen -/
/-- the pen at p: cells at c (some ints), a place, what is left -/
def Pen (H : Hp) (p c : Addr) : Prop := ∃ (ns : List Int) (i j : Int), H p = some (.lst [.ref c, .int i, .int j]) ∧ H c = some (.lst (ns.map V.int))
theorem pen_ne {H : Hp} {p c : Addr} {ns : List Int} {i j : Int} (h : H p = some (.lst [.ref c, .int i, .int j])) (h2 : H c = some (.lst (ns.map V.int))) : p ≠ c := by
  refine ne_of h h2 fun e => ?_
  injection e with e
  cases ns with
  | nil => cases e
  | cons a r =>
    rw [List.map_cons] at e
    injection e with e1 e2
    cases e1
/-- all but p stands as it stood, the pen at p stands -/
structure Kp (p c : Addr) (H H' : Hp) : Prop where
  but : ∀ b o, b ≠ p → H b = some o → H' b = some o
  pen : Pen H' p c
theorem Kp.rfl' {p c : Addr} {H : Hp} (h : Pen H p c) : Kp p c H H := ⟨fun _ _ _ e => e, h⟩
theorem Kp.trans {p c : Addr} {H H1 H2 : Hp} (a : Kp p c H H1) (b : Kp p c H1 H2) : Kp p c H H2 := ⟨fun x o n e => b.but x o n (a.but x o n e), b.pen⟩
theorem Pen.ne {H : Hp} {p c q : Addr} (h : Pen H p c) (hq : H q = none) : q ≠ p := by
  obtain ⟨ns, i, j, h1, _⟩ := h
  exact (ne_of_none h1 hq).symm
theorem Pen.neC {H : Hp} {p c q : Addr} (h : Pen H p c) (hq : H q = none) : q ≠ c := by
  obtain ⟨ns, i, j, _, h1⟩ := h
  exact (ne_of_none h1 hq).symm
theorem Pen.put {H : Hp} {p c q : Addr} {o : HO} (h : Pen H p c) (n1 : q ≠ p) (n2 : q ≠ c) : Pen (upd H q o) p c := by
  obtain ⟨ns, i, j, h1, h2⟩ := h
  exact ⟨ns, i, j, by rw [upd_ne n1.symm]; exact h1, by rw [upd_ne n2.symm]; exact h2⟩
theorem Pen.new {H : Hp} {p c q : Addr} {o : HO} (h : Pen H p c) (hq : H q = none) : Pen (upd H q o) p c := h.put (h.ne hq) (h.neC hq)
theorem Kp.new {H H' : Hp} {p c q : Addr} {o : HO} (h : Kp p c H H') (hq : H' q = none) : Kp p c H (upd H' q o) :=
  ⟨fun b u n e => by rw [upd_ne (ne_of_none (h.but b u n e) hq)]; exact h.but b u n e, h.pen.new hq⟩
/-- something made since is changed -/
theorem Kp.put {H H' : Hp} {p c q : Addr} {o : HO} (h : Kp p c H H') (hP : Pen H p c) (hq : H q = none) : Kp p c H (upd H' q o) :=
  ⟨fun b u n e => by rw [upd_ne (ne_of_none e hq)]; exact h.but b u n e, h.pen.put (hP.ne hq) (hP.neC hq)⟩
theorem Kp.free {H H' : Hp} {p c q : Addr} (h : Kp p c H H') (hq : H' q = none) : H q = none := by
  cases e : H q with
  | none => rfl
  | some o =>
    rw [h.but q o (h.pen.ne hq) e] at hq
    cases hq
theorem Kp.seqL {K : PySem.W.Frag} {p c a : Addr} {H H' : Hp} {xs : List V} (k : Kp p c H H') (n : a ≠ p) (h : SqL K H a xs) : SqL K H' a xs := by
  rcases h with (h | ⟨o, h⟩) | h
  · exact .inl (.inl (k.but _ _ n h))
  · exact .inl (.inr ⟨o, k.but _ _ n h⟩)
  · exact .inr h

/-- the built-in names that these defs read -/
structure BN (mg : Str → Option Value) : Prop where
  list : mg "list" = none
  int : mg "int" = none
  len : mg "len" = none
  range : mg "range" = none

def spPen (K : PySem.W.Frag) : Sp := fun vs H Q _ => ∃ (a : Addr) (ns : List Int), vs = [.ref a] ∧ SqL K H a (ns.map V.int) ∧
  ∀ H' p c, Same H H' → Pen H' p c → H p = none → Q (.ref p) H'
def spFresh : Sp := fun vs H Q _ => ∃ p c : Addr, vs = [.ref p] ∧ Pen H p c ∧ ∀ (z : Int) H', Kp p c H H' → Q (.int z) H'
/-- a number from 0 to b - 1 -/
def spDraw : Sp := fun vs H Q _ => ∃ (p c : Addr) (b : Int), vs = [.ref p, .int b] ∧ Pen H p c ∧ 0 < b ∧ b.natAbs.log2 < 9000 ∧
  ∀ (d : Int) H', 0 ≤ d → d < b → Kp p c H H' → Q (.int d) H'

theorem sc_pen : FnScope ["script"] ["script"] (fnScope st_law_pen) := fnScope_by (by decide +kernel)
theorem sc_fresh : FnScope ["pen", "place", "cells", "cell", "prime", "state", "found", "lap"] ["pen"] (fnScope st_law_fresh) := fnScope_by (by decide +kernel)
theorem sc_draw : FnScope ["pen", "bound", "digit"] ["pen", "bound"] (fnScope st_law_draw) := fnScope_by (by decide +kernel)

/-- a list of ints is data -/
theorem dp_ints {K : PySem.W.Frag} {H : Hp} : ∀ ns : List Int, DpAll K H (ns.map V.int) (ns.map PyData.int)
  | [] => .nil
  | n :: r => .cons (.int n) (dp_ints r)
theorem shaped_ints (ns : List Int) : SeqAt.shaped (.list (ns.map PyData.int)) = true := by
  have h : ∀ l : List Int, PyData.canLayAll0 (l.map PyData.int) = true ∧ PyData.depthAll (l.map PyData.int) = 0 := by
    intro l
    induction l with
    | nil => exact ⟨by simp only [List.map_nil, PyData.canLayAll0], by simp only [List.map_nil, PyData.depthAll]⟩
    | cons a r ih => exact ⟨by simp only [List.map_cons, PyData.canLayAll0, PyData.canLay0, ih.1, Bool.and_self], by simp only [List.map_cons, PyData.depthAll, PyData.depth, ih.2, Nat.max_self]⟩
  unfold SeqAt.shaped
  simp only [PyData.canLay0, PyData.depth, (h ns).1, (h ns).2, Bool.true_and]
  decide
theorem ints_ne_nil (ns : List Int) : (!PyData.eqv (.list (ns.map PyData.int)) (.list [])) = !ns.isEmpty := by
  cases ns with
  | nil => simp only [List.map_nil, PyData.eqv, PyData.eqvAll, List.isEmpty_nil]
  | cons a r => simp only [List.map_cons, PyData.eqv, PyData.eqvAll, List.isEmpty_cons]
theorem prime_ok : (-(2 ^ 64) < (2305843009213693951 : Int) ∧ (2305843009213693951 : Int) < 2 ^ 64) := by decide

section
variable {P : Program} {w : World} {K : PySem.W.Frag} {mg : Str → Option Value} {base : Heap} {f : Addr} {fd : FuncData}
theorem cal_pen (F : C8.Def K mg "_law_pen" st_law_pen f fd) (b : Binds K fd ["script"] []) (B : BN mg) : Cal P w K mg base 1 "_law_pen" (spPen K) [] := by
  refine cal0 F b .nil sc_pen (fun vs H Q E h => ?_) (fun cdv A outer s H vs Q E hr h => ?_)
  · obtain ⟨a, ns, rfl, _⟩ := h
    rfl
  · obtain ⟨a, ns, rfl, hS, k⟩ := h
    refine ⟨_, pss_one (ps_ret (pe_lst (pa_cons (pe_callTy call_list_of (by rfl) B.list (by decide +kernel) (pa_cons (pe_slice sl_list (pv 0) po_none (po_some pe_int)) pa_nil)) (pa_cons pe_int (pa_cons pe_int pa_nil))))), ?_⟩
    refine ⟨_, rfl, _, rfl, a, _, rfl, hS, fun p hp => ?_⟩
    refine ⟨p, _, rfl, .inl (SqL.of upd_same), fun l hl => ?_⟩
    refine ⟨(by show 3 ≤ sizeLine; decide), fun q hq => ?_⟩
    have hl0 : H l = none := by
      have n : l ≠ p := fun z => by
        rw [z, upd_same] at hl
        cases hl
      rw [upd_ne n] at hl
      exact hl
    have s1 : Same H (upd (upd H p (.lst (cutV (ns.map V.int) none (some 63)))) l (.lst (cutV (ns.map V.int) none (some 63)))) := fun b o e => by
      rw [upd_ne (ne_of_none e hl0), upd_ne (ne_of_none e hp)]
      exact e
    obtain ⟨ms, hms⟩ : ∃ ms : List Int, cutV (ns.map V.int) none (some 63) = ms.map V.int := by
      unfold cutV
      rw [← List.map_drop, ← List.map_take]
      exact ⟨_, rfl⟩
    refine k _ q l (fun b o e => ?_) ⟨ms, 0, 0, upd_same, ?_⟩ (s1.free hq)
    · rw [upd_ne (ne_of_none (s1 b o e) hq)]
      exact s1 b o e
    · have n : l ≠ q := fun z => by
        rw [← z, upd_same] at hq
        cases hq
      rw [upd_ne n, upd_same, hms]
theorem cal_fresh (F : C8.Def K mg "_law_fresh" st_law_fresh f fd) (b : Binds K fd ["pen"] []) (B : BN mg) : Cal P w K mg base 1 "_law_fresh" spFresh [] := by
  refine cal0 F b .nil sc_fresh (fun vs H Q E h => ?_) (fun cdv A outer s H vs Q E hr h => ?_)
  · obtain ⟨p, c, rfl, _⟩ := h
    rfl
  · obtain ⟨p, c, rfl, ⟨ns, i, j, hp, hc⟩, k⟩ := h
    have hpc := pen_ne hp hc
    refine ⟨_, pss_cons (ps_par (i := 1) (j := 2) rfl sc_fresh.nd rfl rfl (by decide) rfl rfl (pa_cons (pe_ix ix_list (pv 0) pe_int (fun _ _ => rfl)) (pa_cons (pe_ix ix_list (pv 0) pe_int (fun _ _ => rfl)) pa_nil)) (by rfl))
      (pss_cons (ps_asg (pe_op op_add (pv 1) pe_int) (pg_sub (pv 0) pe_int set_list))
      (pss_cut (ps_set (i := 3) sc_fresh.nd rfl (Or.inl rfl) (pe_ifExp (pt_cmpR (op_neD hr.units) (pv 2) (pe_lst pa_nil) (nomark _)) (pe_ix ix_list (pv 2) (pe_op op_mod (pe_callTy call_int1 (by rfl) B.int (by decide +kernel) (pa_cons (pv 1) pa_nil)) (pe_callB call_len_seq (by rfl) B.len PySem.boot_len (pa_cons (pv 2) pa_nil))) (fun _ _ => rfl)) pe_int))
      (pss_cut (ps_if (PW.pt (pw_and (pt_cmpR op_lt (pv 1) (pe_callB call_len_seq (by rfl) B.len PySem.boot_len (pa_cons (pv 2) pa_nil)) (nomark _)) (pw_and1 (pt_cmpR op_ge (pv 3) (pe_op op_pow pe_int pe_int) (nomark _))))) (pss_one (ps_ret (pe_op op_sub (pv 3) (pe_op op_pow pe_int pe_int)))) pss_nil)
      (pss_cons (ps_set (i := 4) sc_fresh.nd rfl (Or.inl rfl) pe_int)
      (pss_cons (ps_set (i := 5) sc_fresh.nd rfl (Or.inl rfl) (pe_op op_mod (pe_callTy call_int1 (by rfl) B.int (by decide +kernel) (pa_cons (pe_op op_add (pe_op op_add (pe_op op_mul (pv 3) pe_int) (pe_op op_mul pe_int (pv 1))) pe_int) pa_nil)) (pv 4)))
      (pss_cons (ps_set (i := 6) sc_fresh.nd rfl (Or.inl rfl) (pv 5))
      (pss_cons (ps_for PassesOwn.never rfl (pi_range1 rfl B.range (pa_cons pe_int pa_nil)) (pg_name (i := 7) sc_fresh.nd rfl (Or.inl rfl))
        (pss_cons (ps_set (i := 5) sc_fresh.nd rfl (Or.inl rfl) (pe_op op_mod (pe_callTy call_int1 (by rfl) B.int (by decide +kernel) (pa_cons (pe_op op_add (pe_op op_add (pe_op op_mul (pv 5) (pv 5)) (pe_op op_mul (pe_op op_mul pe_int (pe_op op_add (pv 7) pe_int)) (pe_op op_add (pv 1) pe_int))) (pv 3)) pa_nil)) (pv 4)))
        (pss_one (ps_set (i := 6) sc_fresh.nd rfl (Or.inl rfl) (pe_op op_add (pe_op op_mul (pv 6) (pv 4)) (pv 5))))))
      (pss_one (ps_ret (pv 6)))))))))), ?_⟩
    refine ⟨_, rfl, p, _, _, _, rfl, rfl, SqL.of hp, atI_nat (j := 1) rfl, _, rfl, p, _, _, _, rfl, rfl, SqL.of hp, atI_nat (j := 0) rfl, _, _, rfl, ?_⟩
    refine ⟨_, rfl, _, _, rfl, rfl, _, rfl, p, _, _, 1, rfl, rfl, hp, rfl, ?_⟩
    have hp1 : upd H p (.lst [.ref c, .int (i + 1), .int j]) p = some (.lst [.ref c, .int (i + 1), .int j]) := upd_same
    have hc1 : upd H p (.lst [.ref c, .int (i + 1), .int j]) c = some (.lst (ns.map V.int)) := by
      rw [upd_ne hpc.symm]
      exact hc
    have k1 : Kp p c H (upd H p (.lst [.ref c, .int (i + 1), .int j])) := ⟨fun b o n e => by rw [upd_ne n]; exact e, ns, i + 1, j, hp1, hc1⟩
    -- behind the third statement the cell is some number; a new empty list stands
    refine ⟨fun σ H' => (∃ z : Int, σ = [some (.ref p), some (.int i), some (.ref c), some (.int z), none, none, none, none]) ∧ Kp p c H H' ∧ H' c = some (.lst (ns.map V.int)), ?_, ?_⟩
    · refine ⟨_, rfl, Nat.zero_le _, fun q hq => ?_⟩
      have k2 : Kp p c H (upd (upd H p (.lst [.ref c, .int (i + 1), .int j])) q (.lst [])) := k1.new hq
      have hc2 : upd (upd H p (.lst [.ref c, .int (i + 1), .int j])) q (.lst []) c = some (.lst (ns.map V.int)) := by
        rw [upd_ne (ne_of_none hc1 hq)]
        exact hc1
      refine ⟨.list (ns.map PyData.int), .list [], .lst (SqL.of hc2) (dp_ints ns), .lst (SqL.of upd_same) .nil, shaped_ints ns, by decide, _, rfl, ?_⟩
      rw [ints_ne_nil]
      cases ns with
      | nil =>
        refine iteF ?_
        exact ⟨⟨0, rfl⟩, k2, hc2⟩
      | cons n r =>
        refine iteT ?_
        have hm : (0 : Int) ≤ i % (((n :: r).map V.int).length : Nat) ∧ i % (((n :: r).map V.int).length : Nat) < (((n :: r).map V.int).length : Nat) := by
          have h0 : (0 : Int) < (((n :: r).map V.int).length : Nat) := by
            rw [List.length_map, List.length_cons]
            omega
          exact ⟨Int.emod_nonneg _ (by omega), Int.emod_lt_of_pos _ h0⟩
        obtain ⟨u, hu⟩ : ∃ u : Nat, i % (((n :: r).map V.int).length : Nat) = (u : Int) := ⟨_, (Int.toNat_of_nonneg hm.1).symm⟩
        have hlt : u < (n :: r).length := by
          have q := hm.2
          rw [hu, List.length_map] at q
          omega
        refine ⟨_, rfl, _, rfl, .inl ⟨_, rfl, _, rfl, c, _, rfl, .inl (SqL.of hc2), _, _, rfl, rfl, ?_, c, _, _, .int ((n :: r)[u]), rfl, rfl, SqL.of hc2, ?_, ⟨_, rfl⟩, k2, hc2⟩⟩
        · rw [List.length_map, List.length_cons]
          omega
        · rw [hu]
          exact atI_nat (by rw [List.getElem?_map, List.getElem?_eq_getElem hlt]; rfl)
    · rintro σ H2 ⟨⟨z, rfl⟩, k2, hc2⟩
      refine ⟨fun σ H' => σ = [some (.ref p), some (.int i), some (.ref c), some (.int z), none, none, none, none] ∧ H' = H2, ?_, ?_⟩
      · refine ⟨_, rfl, _, rfl, c, _, rfl, .inl (SqL.of hc2), _, _, rfl, rfl, _, rfl, ?_⟩
        refine ite2 (fun _ => ?_) (fun _ => ?_)
        · refine ⟨_, rfl, _, _, rfl, rfl, ⟨by decide, by decide, by decide⟩, _, _, rfl, rfl, _, rfl, ?_⟩
          refine ite2 (fun _ => ?_) (fun _ => ?_)
          · exact ⟨_, rfl, _, _, rfl, rfl, ⟨by decide, by decide, by decide⟩, _, _, rfl, rfl, k _ _ k2⟩
          · exact ⟨rfl, rfl⟩
        · exact iteF ⟨rfl, rfl⟩
      · rintro σ H3 ⟨rfl, rfl⟩
        refine ⟨_, rfl, _, _, rfl, rfl, .inr ⟨by decide, by decide⟩, _, rfl, _, _, rfl, rfl, .inl ⟨by decide, by decide⟩, _, _, rfl, rfl, _, _, rfl, rfl, .inl ⟨_, rfl, ?_⟩⟩
        refine ⟨_, rfl, _, _, rfl, rfl, (by show (0 : Int) < 2305843009213693951; decide), ?_⟩
        refine ⟨_, rfl, ?_⟩
        refine ⟨6, rfl, by decide, by decide, for_range (n := 6) (fun _ σ H' => H' = H3 ∧ ∃ (st fo : Int) (v : Option V), 0 ≤ st ∧ st < 2305843009213693951 ∧ σ = [some (.ref p), some (.int i), some (.ref c), some (.int z), some (.int 2305843009213693951), some (.int st), some (.int fo), v]) ⟨rfl, _, _, _, Int.emod_nonneg _ (by decide), Int.emod_lt_of_pos _ (by decide), rfl⟩ ?_ ?_⟩
        · rintro i' σ H4 hi ⟨rfl, st, fo, v, h0, h1, rfl⟩
          refine ⟨_, rfl, _, rfl, _, _, rfl, rfl, .inl ⟨by omega, by omega⟩, _, rfl, _, _, rfl, rfl, _, _, rfl, rfl, .inl ⟨by decide, by decide⟩, _, rfl, _, _, rfl, rfl, _, _, rfl, rfl, .inl ⟨by omega, by omega⟩, _, _, rfl, rfl, _, rfl, _, _, rfl, rfl, .inl ⟨_, rfl, ?_⟩⟩
          refine ⟨_, rfl, _, _, rfl, rfl, (by show (0 : Int) < 2305843009213693951; decide), ?_⟩
          refine ⟨_, rfl, _, rfl, _, _, rfl, rfl, .inr prime_ok, _, rfl, _, _, rfl, rfl, ?_⟩
          exact ⟨rfl, _, _, _, Int.emod_nonneg _ (by decide), Int.emod_lt_of_pos _ (by decide), rfl⟩
        · rintro σ H4 ⟨rfl, st, fo, v, h0, h1, rfl⟩
          exact ⟨_, rfl, k _ _ k2⟩
theorem cal_draw (F : C8.Def K mg "_law_draw" st_law_draw f fd) (b : Binds K fd ["pen", "bound"] []) (B : BN mg) (Cf : Cal P w K mg base 1 "_law_fresh" spFresh []) : Cal P w K mg base 2 "_law_draw" spDraw [] := by
  refine cal0 F b .nil sc_draw (fun vs H Q E h => ?_) (fun cdv A outer s H vs Q E hr h => ?_)
  · obtain ⟨p, c, n, rfl, _⟩ := h
    rfl
  · obtain ⟨p, c, n, rfl, hP, h0, h9, k⟩ := h
    refine ⟨_, pss_cut (ps_if (pt_cmpR op_lt (pe_ix ix_list (pv 0) pe_int (fun _ _ => rfl)) (pv 1) (nomark _)) (pss_one (ps_asg (pe_c Cf hr (by decide) (by rfl) (pa_cons (pv 0) pa_nil)) (pg_sub (pv 0) pe_int set_list))) pss_nil)
      (pss_cons (ps_set (i := 2) sc_draw.nd rfl (Or.inl rfl) (pe_op op_mod (pe_callTy call_int1 (by rfl) B.int (by decide +kernel) (pa_cons (pe_ix ix_list (pv 0) pe_int (fun _ _ => rfl)) pa_nil)) (pv 1)))
      (pss_cons (ps_asg (pe_op op_fdivW (pe_callTy call_int1 (by rfl) B.int (by decide +kernel) (pa_cons (pe_ix ix_list (pv 0) pe_int (fun _ _ => rfl)) pa_nil)) (pv 1)) (pg_sub (pv 0) pe_int set_list))
      (pss_one (ps_ret (pv 2))))), ?_⟩
    refine ⟨fun σ H' => σ = [some (.ref p), some (.int n), none] ∧ Kp p c H H', ?_, ?_⟩
    · obtain ⟨ns, i, j, hp, hc⟩ := id hP
      refine ⟨_, rfl, p, _, _, _, rfl, rfl, SqL.of hp, atI_nat (j := 2) rfl, _, rfl, _, _, rfl, rfl, _, rfl, ?_⟩
      refine ite2 (fun _ => ?_) (fun _ => ?_)
      · refine ⟨_, rfl, p, c, rfl, hP, fun z H1 k1 => ?_⟩
        obtain ⟨ns1, i1, j1, hp1, hc1⟩ := k1.pen
        refine ⟨_, rfl, p, _, _, 2, rfl, rfl, hp1, rfl, rfl, k1.trans ⟨fun b o n e => by rw [upd_ne n]; exact e, ns1, i1, z, upd_same, ?_⟩⟩
        rw [upd_ne (pen_ne hp1 hc1).symm]
        exact hc1
      · exact ⟨rfl, Kp.rfl' hP⟩
    · rintro σ H1 ⟨rfl, k1⟩
      obtain ⟨ns, i, j, hp, hc⟩ := k1.pen
      refine ⟨_, rfl, p, _, _, _, rfl, rfl, SqL.of hp, atI_nat (j := 2) rfl, .inl ⟨_, rfl, _, rfl, _, _, rfl, rfl, h0, ?_⟩⟩
      refine ⟨_, rfl, p, _, _, _, rfl, rfl, SqL.of hp, atI_nat (j := 2) rfl, .inl ⟨_, rfl, _, rfl, _, _, rfl, rfl, ⟨h0, h9⟩, _, rfl, p, _, _, 2, rfl, rfl, hp, rfl, ?_⟩⟩
      refine ⟨_, rfl, k _ _ (Int.emod_nonneg _ (by omega)) (Int.emod_lt_of_pos _ h0) (k1.trans ⟨fun b o n e => by rw [upd_ne n]; exact e, ns, i, j / n, upd_same, ?_⟩)⟩
      rw [upd_ne (pen_ne hp hc).symm]
      exact hc
end

/-! ### one of some things; texts, words -/
/-- a part of a list that is not the pen, or a sign of a text -/
def spOne (K : PySem.W.Frag) : Sp := fun vs H Q _ => ∃ p c : Addr, Pen H p c ∧
  ((∃ (a : Addr) (xs : List V), vs = [.ref p, .ref a] ∧ a ≠ p ∧ SqL K H a xs ∧ 0 < xs.length ∧ xs.length < 1000 ∧ ∀ (x : V) H', x ∈ xs → Kp p c H H' → Q x H') ∨
   (∃ z : Str, vs = [.ref p, .str z] ∧ 0 < z.length ∧ z.length < 1000 ∧ ∀ (g : Nat) H', g ∈ z.cps.toList → Kp p c H H' → Q (.str ⟨#[g]⟩) H'))
theorem sc_one : FnScope ["pen", "rows"] ["pen", "rows"] (fnScope st_law_one_of) := fnScope_by (by decide +kernel)
theorem log_small {b : Int} (h0 : 0 < b) (h : b < 1000) : b.natAbs.log2 < 9000 := by
  have h1 : b.natAbs ≠ 0 := by omega
  rw [Nat.log2_lt h1]
  exact Nat.lt_of_lt_of_le (show b.natAbs < 2 ^ 10 by omega) (Nat.pow_le_pow_right (by decide) (by decide))

/-- a text of small letters, not longer than n -/
structure Tx (n : Nat) (z : Str) : Prop where
  len : z.length ≤ n
  low : ∀ c ∈ z.cps.toList, 97 ≤ c ∧ c ≤ 122
def spPiece : Sp := fun vs H Q _ => ∃ (p c : Addr) (m : Nat), vs = [.ref p, .int m] ∧ Pen H p c ∧ 0 < m ∧ m < 900 ∧
  ∀ (z : Str) H', 0 < z.length → Tx m z → Kp p c H H' → Q (.str z) H'
def abc : List Str := ["ab", "ab", "a", "abc", "abcdefghijklmnopqrstuvwxyz"]
theorem abc_low : ∀ z ∈ abc, 0 < z.length ∧ z.length < 1000 ∧ ∀ c ∈ z.cps.toList, 97 ≤ c ∧ c ≤ 122 := by decide +kernel
/-- texts joined: their signs one behind the other -/
theorem join_nil : ∀ l : List (List Nat), TL.joinL [] l = l.flatten
  | [] => rfl
  | [x] => by
    show x = [x].flatten
    rw [List.flatten_cons, List.flatten_nil, List.append_nil]
  | x :: z :: r => by
    show x ++ ([] ++ TL.joinL [] (z :: r)) = (x :: z :: r).flatten
    rw [List.nil_append, join_nil (z :: r), List.flatten_cons (l := x)]
theorem join_cps (ys : List Str) : (Txt.join "" ys).cps.toList = (ys.map fun y => y.cps.toList).flatten := by
  have e : TL.tl (Txt.join "" ys) = TL.joinL (TL.tl "") (ys.map TL.tl) := (congrArg TL.tl (TL.join_eq "" ys)).trans (TL.tl_join "" ys)
  exact e.trans (join_nil _)
theorem join_len (ys : List Str) : (Txt.join "" ys).length = (ys.map (·.length)).sum := by
  have e : (Txt.join "" ys).length = (Txt.join "" ys).cps.toList.length := (Array.length_toList).symm
  rw [e, join_cps, List.length_flatten, List.map_map]
  exact congrArg List.sum (List.map_congr_left fun y _ => Array.length_toList)
theorem lens_one : ∀ ys : List Str, (∀ y ∈ ys, y.length = 1) → (ys.map (·.length)).sum = ys.length
  | [], _ => rfl
  | y :: r, h => by
    rw [List.map_cons, List.sum_cons, h y List.mem_cons_self, lens_one r fun z hz => h z (List.mem_cons_of_mem _ hz), List.length_cons]
    omega
section
variable {P : Program} {w : World} {K : PySem.W.Frag} {mg : Str → Option Value} {base : Heap} {f : Addr} {fd : FuncData}
theorem cal_one (F : C8.Def K mg "_law_one_of" st_law_one_of f fd) (b : Binds K fd ["pen", "rows"] []) (B : BN mg) (Cd : Cal P w K mg base 2 "_law_draw" spDraw []) : Cal P w K mg base 3 "_law_one_of" (spOne K) [] := by
  refine cal0 F b .nil sc_one (fun vs H Q E h => ?_) (fun cdv A outer s H vs Q E hr h => ?_)
  · obtain ⟨p, c, _, h⟩ := h
    rcases h with ⟨a, xs, rfl, _⟩ | ⟨z, rfl, _⟩ <;> rfl
  · obtain ⟨p, c, hP, h⟩ := h
    refine ⟨_, pss_one (ps_ret (pe_ix (IxR.or ix_list ix_str) (pv 1) (pe_c Cd hr (by decide) (by rfl) (pa_cons (pv 0) (pa_cons (pe_callB (CallR.or call_len_seq call_len_str) (by rfl) B.len PySem.boot_len (pa_cons (pv 1) pa_nil)) pa_nil))) (fun _ _ => rfl))), ?_⟩
    rcases h with ⟨a, xs, rfl, na, hS, h0, h1, k⟩ | ⟨z, rfl, h0, h1, k⟩
    · refine ⟨_, rfl, _, rfl, _, rfl, .inl ⟨a, xs, rfl, .inl hS, p, c, _, rfl, hP, by omega, log_small (by omega) (by omega), fun d H1 d0 d1 k1 => ?_⟩⟩
      obtain ⟨u, rfl⟩ : ∃ u : Nat, d = (u : Int) := ⟨_, (Int.toNat_of_nonneg d0).symm⟩
      have hlt : u < xs.length := by omega
      exact .inl ⟨a, xs, _, xs[u], rfl, rfl, k1.seqL na hS, atI_nat (List.getElem?_eq_getElem hlt), k _ _ (List.getElem_mem hlt) k1⟩
    · refine ⟨_, rfl, _, rfl, _, rfl, .inr ⟨z, rfl, Nat.le_of_lt (Nat.lt_of_lt_of_le h1 (by decide)), p, c, _, rfl, hP, by omega, log_small (by omega) (by omega), fun d H1 d0 d1 k1 => ?_⟩⟩
      obtain ⟨u, rfl⟩ : ∃ u : Nat, d = (u : Int) := ⟨_, (Int.toNat_of_nonneg d0).symm⟩
      have hlt : u < z.cps.toList.length := by
        rw [Array.length_toList]
        have e : z.length = z.cps.size := rfl
        omega
      exact .inr ⟨z, _, z.cps.toList[u], rfl, rfl, Nat.le_of_lt (Nat.lt_of_lt_of_le h1 (by decide)), atI_nat (List.getElem?_eq_getElem hlt), k _ _ (List.getElem_mem hlt) k1⟩
end

/-! ### a drawn text -/
theorem sc_piece : FnScope ["pen", "most", "letters", "lap"] ["pen", "most"] (fnScope st_law_piece) := fnScope_by (by decide +kernel)
section
variable {P : Program} {w : World} {K : PySem.W.Frag} {mg : Str → Option Value} {base : Heap} {f : Addr} {fd : FuncData}
theorem cal_piece (F : C8.Def K mg "_law_piece" st_law_piece f fd) (b : Binds K fd ["pen", "most"] []) (B : BN mg) (Cd : Cal P w K mg base 2 "_law_draw" spDraw []) (Co : Cal P w K mg base 3 "_law_one_of" (spOne K) []) : Cal P w K mg base 4 "_law_piece" spPiece [] := by
  refine cal0 F b .nil sc_piece (fun vs H Q E h => ?_) (fun cdv A outer s H vs Q E hr h => ?_)
  · obtain ⟨p, c, m, rfl, _⟩ := h
    rfl
  · obtain ⟨p, c, m, rfl, hP, m0, m9, k⟩ := h
    refine ⟨_, pss_cons (ps_set (i := 2) sc_piece.nd rfl (Or.inr rfl) (pe_c Co hr (by decide) (by rfl) (pa_cons (pv 0) (pa_cons (pe_lst (pa_cons pe_str (pa_cons pe_str (pa_cons pe_str (pa_cons pe_str (pa_cons pe_str pa_nil)))))) pa_nil))))
      (pss_one (ps_ret (pe_join pe_str (pe_lc (own := [("lap", 3)]) (g := gName 3) (tt := tYes) (by rfl) sc_piece.nd (pi_range1 rfl B.range (pa_cons (pe_op op_add pe_int (pe_c Cd hr (by decide) (by rfl) (pa_cons (pv 0) (pa_cons (pv 1) pa_nil)))) pa_nil))
        (blkOk_by (own := [("lap", 3)]) (N := ["pen", "most", "letters", "lap"]) (sc := fnScope st_law_piece) (by decide +kernel)) (fun _ _ _ _ _ => pg_name (i := 3) sc_piece.nd rfl (Or.inl rfl)) (fun _ _ _ _ _ => pts_nil)
        (fun _ _ _ _ _ => pe_c Co hr (by decide) (by rfl) (pa_cons (pv 0) (pa_cons (pv 2) pa_nil))))))), ?_⟩
    refine ⟨_, rfl, (by show 5 ≤ sizeLine; decide), fun a ha => ⟨p, c, hP.new ha, .inl ⟨a, _, rfl, hP.ne ha, SqL.of upd_same, by decide, by decide, fun x H1 hx k1 => ?_⟩⟩⟩
    obtain ⟨z, hz, rfl⟩ : ∃ z ∈ abc, x = V.str z := by
      have hx' : x ∈ abc.map V.str := hx
      obtain ⟨z, h1, h2⟩ := List.mem_map.mp hx'
      exact ⟨z, h1, h2.symm⟩
    obtain ⟨z0, z1, z2⟩ := abc_low z hz
    have kA : Kp p c H H1 := (Kp.new (Kp.rfl' hP) ha).trans k1
    refine ⟨⟨_, rfl⟩, ?_⟩
    refine ⟨_, rfl, _, rfl, p, c, m, rfl, kA.pen, by omega, log_small (by omega) (by omega), fun d H2 d0 d1 k2 => ?_⟩
    have kB : Kp p c H H2 := kA.trans k2
    refine ⟨_, _, rfl, rfl, 1 + d, rfl, by omega, by omega, fun D hD => ?_⟩
    refine lc_range (lo := 0) (n := (1 + d).toNat) (fun i H' => Kp p c H H' ∧ ∃ ys : List Str, H' D = some (.lst (ys.map V.str)) ∧ H D = none ∧ ys.length = i ∧ ∀ y ∈ ys, y.length = 1 ∧ ∀ c ∈ y.cps.toList, 97 ≤ c ∧ c ≤ 122)
      ⟨kB.new hD, [], upd_same, kB.free hD, rfl, fun y hy => by cases hy⟩ ?_ ?_
    · rintro i H3 hi ⟨k3, ys, hL, hD0, hl, hy⟩
      refine ⟨rfl, ?_⟩
      refine ⟨_, rfl, _, rfl, p, c, k3.pen, .inr ⟨z, rfl, z0, z1, fun g H4 hg k4 => ?_⟩⟩
      have nD : D ≠ p := hP.ne hD0
      have hL4 : H4 D = some (.lst (ys.map V.str)) := k4.but _ _ nD hL
      refine ⟨_, hL4, ?_, ?_⟩
      · rw [List.length_map]
        exact Nat.lt_of_lt_of_le (show ys.length < 1000 by omega) (by decide)
      · refine ⟨(k3.trans k4).put hP hD0, ys ++ [⟨#[g]⟩], ?_, hD0, ?_, ?_⟩
        · rw [upd_same, List.map_append]
          rfl
        · rw [List.length_append, hl]
          rfl
        · intro y hm
          rcases List.mem_append.mp hm with hm | hm
          · exact hy y hm
          · obtain rfl := List.mem_singleton.mp hm
            exact ⟨rfl, fun c' hc' => by
              obtain rfl : c' = g := by simpa using hc'
              exact z2 _ hg⟩
    · rintro H3 ⟨k3, ys, hL, hD0, hl, hy⟩
      refine ⟨_, D, ys, rfl, rfl, .inl (SqL.of hL), ?_, ?_⟩
      · rw [lens_one ys fun y hy' => (hy y hy').1]
        have e0 : (("" : Str)).length = 0 := by decide
        rw [e0]
        omega
      · refine k _ _ ?_ ⟨?_, ?_⟩ k3
        · rw [join_len, lens_one ys fun y hy' => (hy y hy').1]
          omega
        · rw [join_len, lens_one ys fun y hy' => (hy y hy').1]
          omega
        · intro c' hc'
          rw [join_cps] at hc'
          obtain ⟨l, h1, h2⟩ := List.mem_flatten.mp hc'
          obtain ⟨y, h3, rfl⟩ := List.mem_map.mp h1
          exact (hy y h3).2 _ h2
end

/-! ### words drawn -/
/-- a word of kinds below b, not longer than n -/
def Wd (b : Int) (n : Nat) (ks : List Int) : Prop := ks.length ≤ n ∧ ∀ k ∈ ks, 0 ≤ k ∧ k < b
def spWord : Sp := fun vs H Q _ => ∃ (p c : Addr) (b : Int) (n : Nat), vs = [.ref p, .int b, .int n] ∧ Pen H p c ∧ 0 < b ∧ b < 1000 ∧ n < 900 ∧
  ∀ (ks : List Int) (t : Addr) H', Wd b n ks → Kp p c H H' → H t = none → H' t = some (.tup (ks.map V.int)) → Q (.ref t) H'
theorem sc_word : FnScope ["pen", "count", "most", "lap"] ["pen", "count", "most"] (fnScope st_law_word) := fnScope_by (by decide +kernel)

section
variable {P : Program} {w : World} {K : PySem.W.Frag} {mg : Str → Option Value} {base : Heap} {f : Addr} {fd : FuncData}
theorem cal_word (F : C8.Def K mg "_law_word" st_law_word f fd) (b : Binds K fd ["pen", "count", "most"] []) (B : BN mg) (BT : mg "tuple" = none) (Cd : Cal P w K mg base 2 "_law_draw" spDraw []) : Cal P w K mg base 3 "_law_word" spWord [] := by
  refine cal0 F b .nil sc_word (fun vs H Q E h => ?_) (fun cdv A outer s H vs Q E hr h => ?_)
  · obtain ⟨p, c, m, n, rfl, _⟩ := h
    rfl
  · obtain ⟨p, c, m, n, rfl, hP, m0, m9, n9, k⟩ := h
    refine ⟨_, pss_one (ps_ret (pe_callTy call_tuple_of (by rfl) BT (by decide +kernel) (pa_cons (pe_lc (own := [("lap", 3)]) (g := gName 3) (tt := tYes) (by rfl) sc_word.nd (pi_range1 rfl B.range (pa_cons (pe_c Cd hr (by decide) (by rfl) (pa_cons (pv 0) (pa_cons (pe_op op_add (pv 2) pe_int) pa_nil))) pa_nil))
        (blkOk_by (own := [("lap", 3)]) (N := ["pen", "count", "most", "lap"]) (sc := fnScope st_law_word) (by decide +kernel)) (fun _ _ _ _ _ => pg_name (i := 3) sc_word.nd rfl (Or.inl rfl)) (fun _ _ _ _ _ => pts_nil)
        (fun _ _ _ _ _ => pe_c Cd hr (by decide) (by rfl) (pa_cons (pv 0) (pa_cons (pv 1) pa_nil)))) pa_nil))), ?_⟩
    refine ⟨_, rfl, _, rfl, _, _, rfl, rfl, p, c, _, rfl, hP, by omega, log_small (by omega) (by omega), fun d H1 d0 d1 k1 => ?_⟩
    refine ⟨d, rfl, by omega, by omega, fun D hD => ?_⟩
    refine lc_range (lo := 0) (n := d.toNat) (fun i H' => Kp p c H H' ∧ ∃ ks : List Int, H' D = some (.lst (ks.map V.int)) ∧ H D = none ∧ ks.length = i ∧ ∀ z ∈ ks, 0 ≤ z ∧ z < m)
      ⟨k1.new hD, [], upd_same, k1.free hD, rfl, fun y hy => by cases hy⟩ ?_ ?_
    · rintro i H3 hi ⟨k3, ks, hL, hD0, hl, hy⟩
      refine ⟨rfl, ?_⟩
      refine ⟨_, rfl, _, rfl, p, c, _, rfl, k3.pen, m0, log_small m0 m9, fun z H4 z0 z1 k4 => ?_⟩
      refine ⟨_, k4.but _ _ (hP.ne hD0) hL, ?_, ?_⟩
      · rw [List.length_map]
        exact Nat.lt_of_lt_of_le (show ks.length < 1000 by omega) (by decide)
      · refine ⟨(k3.trans k4).put hP hD0, ks ++ [z], ?_, hD0, ?_, ?_⟩
        · rw [upd_same, List.map_append]
          rfl
        · rw [List.length_append, hl]
          rfl
        · intro y hm
          rcases List.mem_append.mp hm with hm | hm
          · exact hy y hm
          · obtain rfl := List.mem_singleton.mp hm
            exact ⟨z0, z1⟩
    · rintro H3 ⟨k3, ks, hL, hD0, hl, hy⟩
      refine ⟨D, _, rfl, .inl ⟨SqL.of hL, fun t ht => ?_⟩⟩
      exact k ks t _ ⟨by omega, hy⟩ (k3.new ht) (k3.free ht) upd_same
end

/-! ### recipes: parts, their buffers, their letters -/
inductive Pt where
  | s (z : Str)
  | b (i : Nat)
abbrev Rc := List Pt
def Pt.v : Pt → V
  | .s z => .str z
  | .b i => .int i
def Pt.d : Pt → PyData
  | .s z => .str z
  | .b i => .int i
def Pt.buf : Pt → List Nat
  | .s _ => []
  | .b i => [i]
def Pt.let : Pt → Nat
  | .s z => z.length
  | .b _ => 0
def Pt.low : Pt → Prop
  | .s z => ∀ c ∈ z.cps.toList, 97 ≤ c ∧ c ≤ 122
  | .b _ => True
def bufs (r : Rc) : List Nat := r.flatMap Pt.buf
def lets (r : Rc) : Nat := (r.map Pt.let).sum
def lowR (r : Rc) : Prop := ∀ q ∈ r, q.low
theorem bufs_app (a b : Rc) : bufs (a ++ b) = bufs a ++ bufs b := List.flatMap_append
theorem lets_app (a b : Rc) : lets (a ++ b) = lets a + lets b := by
  unfold lets
  rw [List.map_append, List.sum_append]
theorem lets_one (q : Pt) : lets [q] = q.let := by
  unfold lets
  rw [List.map_cons, List.map_nil, List.sum_cons, List.sum_nil, Nat.add_zero]
theorem bufs_one (q : Pt) : bufs [q] = q.buf := by
  unfold bufs
  rw [List.flatMap_cons, List.flatMap_nil, List.append_nil]
theorem lowR_app {a b : Rc} (h : lowR a) (h2 : lowR b) : lowR (a ++ b) := fun q hq => (List.mem_append.mp hq).elim (h q) (h2 q)
theorem lowR_one {q : Pt} (h : q.low) : lowR [q] := fun x hx => by
  obtain rfl := List.mem_singleton.mp hx
  exact h
theorem low_strOk {z : Str} (h : ∀ c ∈ z.cps.toList, 97 ≤ c ∧ c ≤ 122) : PyData.strOk z = true := by
  unfold PyData.strOk
  rw [← Array.all_toList, List.all_eq_true]
  intro c hc
  have q := (h c hc).2
  exact decide_eq_true (by omega)
theorem low_cat {x y : Str} (h : ∀ c ∈ x.cps.toList, 97 ≤ c ∧ c ≤ 122) (h2 : ∀ c ∈ y.cps.toList, 97 ≤ c ∧ c ≤ 122) : ∀ c ∈ (x ++ y).cps.toList, 97 ≤ c ∧ c ≤ 122 := by
  intro c hc
  rw [Str.cps_append, Array.toList_append] at hc
  exact (List.mem_append.mp hc).elim (h c) (h2 c)
theorem len_cat (x y : Str) : (x ++ y).length = x.length + y.length := by
  show (x ++ y).cps.size = x.cps.size + y.cps.size
  rw [Str.cps_append, Array.size_append]

/-- the parts put together: pieces side by side become one -/
def nstep (f : Rc) : Pt → Rc
  | .b i => f ++ [.b i]
  | .s z => match f.getLast? with
    | some (.s y) => f.dropLast ++ [.s (y ++ z)]
    | _ => if z = "" then f else f ++ [.s z]
def normal (ps : Rc) : Rc := ps.foldl nstep []
theorem nstep_glue (g : Rc) (y z : Str) : nstep (g ++ [.s y]) (.s z) = g ++ [.s (y ++ z)] := by
  unfold nstep
  rw [List.getLast?_concat, List.dropLast_concat]
theorem nstep_behind (g : Rc) (i : Nat) (z : Str) : nstep (g ++ [.b i]) (.s z) = if z = "" then g ++ [.b i] else g ++ [.b i] ++ [.s z] := by
  unfold nstep
  rw [List.getLast?_concat]
theorem nstep_first (z : Str) : nstep [] (.s z) = if z = "" then [] else [.s z] := rfl
theorem len_empty {z : Str} (h : z = "") : z.length = 0 := by
  subst h
  decide
structure NOk (f : Rc) (q : Pt) (g : Rc) : Prop where
  buf : bufs g = bufs f ++ q.buf
  lt : lets g = lets f + q.let
  len : g.length ≤ f.length + 1
  low : lowR f → q.low → lowR g
theorem nok_push (f : Rc) (q : Pt) : NOk f q (f ++ [q]) :=
  ⟨by rw [bufs_app, bufs_one], by rw [lets_app, lets_one], by rw [List.length_append, List.length_singleton]; exact Nat.le_refl _, fun h1 h2 => lowR_app h1 (lowR_one h2)⟩
theorem nok_same (f : Rc) {z : Str} (h : z = "") : NOk f (.s z) f :=
  ⟨(List.append_nil _).symm, by show lets f = lets f + z.length; rw [len_empty h, Nat.add_zero], Nat.le_succ _, fun h1 _ => h1⟩
theorem nok_glue (g : Rc) (y z : Str) : NOk (g ++ [.s y]) (.s z) (g ++ [.s (y ++ z)]) := by
  refine ⟨?_, ?_, ?_, fun h1 h2 => ?_⟩
  · rw [bufs_app, bufs_app, bufs_one, bufs_one]
    show bufs g ++ [] = bufs g ++ [] ++ []
    rw [List.append_nil, List.append_nil]
  · rw [lets_app, lets_app, lets_one, lets_one]
    show lets g + (y ++ z).length = lets g + y.length + z.length
    rw [len_cat, Nat.add_assoc]
  · rw [List.length_append, List.length_append]
    exact Nat.le_succ _
  · refine lowR_app (fun q hq => h1 q (List.mem_append_left _ hq)) (lowR_one ?_)
    exact low_cat (h1 (.s y) (List.mem_append_right _ (List.mem_singleton.mpr rfl))) h2
theorem nstep_ok (f : Rc) (q : Pt) : NOk f q (nstep f q) := by
  cases q with
  | b i => exact nok_push f _
  | s z =>
    rcases List.eq_nil_or_concat f with rfl | ⟨g, l, rfl⟩
    · rw [nstep_first]
      by_cases h : z = ""
      · rw [if_pos h]
        exact nok_same [] h
      · rw [if_neg h]
        exact nok_push [] _
    · rw [List.concat_eq_append]
      cases l with
      | s y =>
        rw [nstep_glue]
        exact nok_glue g y z
      | b i =>
        rw [nstep_behind]
        by_cases h : z = ""
        · rw [if_pos h]
          exact nok_same _ h
        · rw [if_neg h]
          exact nok_push _ _
theorem normal_ok : ∀ (ps f : Rc), bufs (ps.foldl nstep f) = bufs f ++ bufs ps ∧ lets (ps.foldl nstep f) = lets f + lets ps ∧ (ps.foldl nstep f).length ≤ f.length + ps.length ∧ (lowR f → lowR ps → lowR (ps.foldl nstep f))
  | [], f => ⟨(List.append_nil _).symm, rfl, Nat.le_refl _, fun h _ => h⟩
  | q :: r, f => by
    have a := nstep_ok f q
    obtain ⟨h1, h2, h3, h4⟩ := normal_ok r (nstep f q)
    rw [List.foldl_cons]
    refine ⟨?_, ?_, ?_, fun l1 l2 => ?_⟩
    · rw [h1, a.buf, List.append_assoc]
      exact congrArg _ (List.flatMap_cons).symm
    · rw [h2, a.lt, Nat.add_assoc]
      rfl
    · rw [List.length_cons]
      have := a.len
      omega
    · exact h4 (a.low l1 (l2 q List.mem_cons_self)) fun x hx => l2 x (List.mem_cons_of_mem _ hx)
theorem foldl_more {α β : Type} (g : β → α → β) (b : β) {l : List α} {i : Nat} {x : α} (h : l[i]? = some x) : (l.take (i + 1)).foldl g b = g ((l.take i).foldl g b) x := by
  have e : l.take (i + 1) = l.take i ++ [x] := by
    rw [List.take_add_one, h]
    rfl
  rw [e, List.foldl_append]
  rfl
theorem dp_parts {K : PySem.W.Frag} {H : Hp} : ∀ r : Rc, DpAll K H (r.map Pt.v) (r.map Pt.d)
  | [] => .nil
  | .s z :: r => .cons (.str z) (dp_parts r)
  | .b i :: r => .cons (.int i) (dp_parts r)
theorem parts_flat : ∀ r : Rc, lowR r → PyData.canLayAll0 (r.map Pt.d) = true ∧ PyData.depthAll (r.map Pt.d) = 0
  | [], _ => ⟨by simp only [List.map_nil, PyData.canLayAll0], by simp only [List.map_nil, PyData.depthAll]⟩
  | .s z :: r, h => by
    obtain ⟨h1, h2⟩ := parts_flat r fun q hq => h q (List.mem_cons_of_mem _ hq)
    have h3 : PyData.strOk z = true := low_strOk (h (.s z) List.mem_cons_self)
    exact ⟨by simp only [List.map_cons, Pt.d, PyData.canLayAll0, PyData.canLay0, h1, h3, Bool.and_self], by simp only [List.map_cons, Pt.d, PyData.depthAll, PyData.depth, h2, Nat.max_self]⟩
  | .b i :: r, h => by
    obtain ⟨h1, h2⟩ := parts_flat r fun q hq => h q (List.mem_cons_of_mem _ hq)
    exact ⟨by simp only [List.map_cons, Pt.d, PyData.canLayAll0, PyData.canLay0, h1, Bool.and_self], by simp only [List.map_cons, Pt.d, PyData.depthAll, PyData.depth, h2, Nat.max_self]⟩
theorem shaped_parts (r : Rc) (h : lowR r) : SeqAt.shaped (.list (r.map Pt.d)) = true := by
  obtain ⟨h1, h2⟩ := parts_flat r h
  unfold SeqAt.shaped
  simp only [PyData.canLay0, PyData.depth, h1, h2, Bool.true_and]
  decide
theorem list_ne_nil (ds : List PyData) : (!PyData.eqv (.list ds) (.list [])) = !ds.isEmpty := by
  cases ds with
  | nil => simp only [PyData.eqv, PyData.eqvAll, List.isEmpty_nil]
  | cons a r => simp only [PyData.eqv, PyData.eqvAll, List.isEmpty_cons]

/-- more built-in names -/
structure BN2 (mg : Str → Option Value) : Prop extends BN mg where
  tuple : mg "tuple" = none
  isi : mg "isinstance" = none
  str : mg "str" = none

def spNormal (K : PySem.W.Frag) : Sp := fun vs H Q _ => ∃ (a : Addr) (ps : Rc), vs = [.ref a] ∧ SqL K H a (ps.map Pt.v) ∧ ps.length ≤ 1000 ∧ lets ps ≤ 100000 ∧ lowR ps ∧
  ∀ t H', Same H H' → H t = none → H' t = some (.tup ((normal ps).map Pt.v)) → Q (.ref t) H'
/-- isinstance(part, str) -/
theorem isi_pt {K : PySem.W.Frag} {H : Hp} (q : Pt) : ∃ (t : Value) (b : Bool), TyX K H q.v t ∧ PySem.W.kitOne K t (.type "str") = some b ∧ (b = true → ∃ z, q = .s z) ∧ (b = false → ∃ i, q = .b i) := by
  cases q with
  | s z => exact ⟨_, true, .base (.str z), kit_ty (by decide +kernel), fun _ => ⟨z, rfl⟩, fun h => (by cases h)⟩
  | b i => exact ⟨_, false, .base (.int i), kit_ty (by decide +kernel), fun h => (by cases h), fun _ => ⟨i, rfl⟩⟩

/-! ### parts put together -/
theorem sc_normal : FnScope ["parts", "found", "part"] ["parts"] (fnScope st_law_normal) := fnScope_by (by decide +kernel)
section
variable {P : Program} {w : World} {K : PySem.W.Frag} {mg : Str → Option Value} {base : Heap} {f : Addr} {fd : FuncData}
theorem cal_normal (F : C8.Def K mg "_law_normal" st_law_normal f fd) (b : Binds K fd ["parts"] []) (B : BN2 mg) : Cal P w K mg base 1 "_law_normal" (spNormal K) [] := by
  refine cal0 F b .nil sc_normal (fun vs H Q E h => ?_) (fun cdv A outer s H vs Q E hr h => ?_)
  · obtain ⟨a, ps, rfl, _⟩ := h
    rfl
  · obtain ⟨a, ps, rfl, hS, hlen, hlets, hlow, k⟩ := h
    refine ⟨_, pss_cons (ps_set (i := 1) sc_normal.nd rfl (Or.inl rfl) (pe_lst pa_nil))
      (pss_cons (ps_for PassesOwn.never rfl (pi_list (pv 0)) (pg_name (i := 2) sc_normal.nd rfl (Or.inl rfl))
        (pss_one (ps_if (PW.pt (pw_and (pt_val (pe_callB call_isi (by rfl) B.isi (by decide +kernel) (pa_cons (pv 2) (pa_cons (pe_bltn (v := .ty "str") (by rfl) B.str (by decide +kernel) rfl) pa_nil))))
            (pw_and (pt_cmpR (op_neD hr.units) (pv 1) (pe_lst pa_nil) (nomark _)) (pw_and1 (pt_val (pe_callB call_isi (by rfl) B.isi (by decide +kernel) (pa_cons (pe_ix ix_list (pv 1) (pe_un un_neg pe_int) (fun _ _ => rfl)) (pa_cons (pe_bltn (v := .ty "str") (by rfl) B.str (by decide +kernel) rfl) pa_nil))))))))
          (pss_one (ps_asg (pe_op op_add_str (pe_ix ix_list (pv 1) (pe_un un_neg pe_int) (fun _ _ => rfl)) (pv 2)) (pg_sub (pv 1) (pe_un un_neg pe_int) set_list)))
          (pss_one (ps_if (pt_cmpR op_ne (pv 2) pe_str (nomark _)) (pss_one (ps_expr (pe_bm PySem.F.plainAttrs_list PySem.F.slot_list_append PySem.F.type_list_append mt_append (pv 1) (pa_cons (pv 2) pa_nil)))) pss_nil)))))
      (pss_one (ps_ret (pe_callTy call_tuple_of (by rfl) B.tuple (by decide +kernel) (pa_cons (pv 1) pa_nil))))), ?_⟩
    refine ⟨Nat.zero_le _, fun q hq => ?_⟩
    have inv : ∀ i, bufs ((ps.take i).foldl nstep []) = bufs (ps.take i) ∧ lets ((ps.take i).foldl nstep []) ≤ 100000 ∧ ((ps.take i).foldl nstep []).length ≤ 1000 ∧ lowR ((ps.take i).foldl nstep []) := fun i => by
      obtain ⟨h1, h2, h3, h4⟩ := normal_ok (ps.take i) []
      have e : lets ps = lets (ps.take i) + lets (ps.drop i) := by rw [← lets_app, List.take_append_drop]
      refine ⟨h1, ?_, ?_, h4 (fun q hq => by cases hq) fun q hq => hlow q (List.mem_of_mem_take hq)⟩
      · rw [h2]
        show 0 + lets (ps.take i) ≤ 100000
        omega
      · have := List.length_take_le i ps
        simp only [List.length_nil] at h3
        have h5 : (ps.take i).length ≤ ps.length := by rw [List.length_take]; omega
        omega
    refine ⟨_, rfl, a, rfl, ⟨_, (show SqL K (upd H q (.lst [])) a (ps.map Pt.v) from Same.seq (fun b o e => by rw [upd_ne (ne_of_none e hq)]; exact e) hS)⟩, for_list (K := K) (a := a) (xs := ps.map Pt.v)
      (fun i σ H' => (∃ v : Option V, σ = [some (.ref a), some (.ref q), v]) ∧ Same H H' ∧ H' q = some (.lst (((ps.take i).foldl nstep []).map Pt.v)))
      ⟨⟨none, rfl⟩, fun b o e => by rw [upd_ne (ne_of_none e hq)]; exact e, upd_same⟩ (fun i σ H' _ h => h.2.1.seq hS) ?_ ?_⟩
    · rintro i x σ H1 hi ⟨⟨v, rfl⟩, s1, hL⟩
      obtain ⟨y, hy, rfl⟩ : ∃ y, ps[i]? = some y ∧ x = Pt.v y := by
        rw [List.getElem?_map] at hi
        cases e : ps[i]? with
        | none =>
          rw [e] at hi
          cases hi
        | some y =>
          rw [e] at hi
          exact ⟨y, rfl, (Option.some.inj hi).symm⟩
      have step := foldl_more nstep [] hy
      obtain ⟨_, v2, v3, v4⟩ := inv i
      have ylow : y.low := hlow y (List.mem_of_getElem? hy)
      generalize hf : (ps.take i).foldl nstep [] = g at *
      rw [step]
      have push : ∀ (H2 : Hp), Same H H2 → H2 q = some (.lst (g.map Pt.v)) → nstep g y = g ++ [y] → (Same H (upd H2 q (.lst (g.map Pt.v ++ [y.v])))) ∧ upd H2 q (.lst (g.map Pt.v ++ [y.v])) q = some (.lst ((nstep g y).map Pt.v)) := fun H2 s2 _ e => by
        refine ⟨fun b o hb => by rw [upd_ne (ne_of_none hb hq)]; exact s2 b o hb, ?_⟩
        rw [upd_same, e, List.map_append]
        rfl
      obtain ⟨ty, tb, t1, t2, t3, t4⟩ := isi_pt (K := K) (H := H1) y
      refine ⟨_, rfl, y.v, _, ty, _, tb, rfl, .ty _, t1, t2, _, rfl, ?_⟩
      cases tb with
      | false =>
        obtain ⟨j, rfl⟩ := t4 rfl
        refine iteF (iteF ?_)
        refine ⟨_, rfl, rfl, _, rfl, ?_⟩
        have ne : (V.int (j : Nat) ≠ V.str "") := fun e => by cases e
        refine iteT' (by show (!decide (V.int (j : Nat) = V.str "")) = true; rw [decide_eq_false ne]; rfl) ?_
        refine ⟨_, rfl, .inl ⟨rfl, _, SqL.of hL⟩, _, rfl, q, _, _, rfl, rfl, hL, ?_, ?_⟩
        · rw [List.length_map]
          exact Nat.lt_of_le_of_lt v3 (by decide)
        · obtain ⟨a1, a2⟩ := push H1 s1 hL rfl
          exact ⟨⟨_, rfl⟩, a1, a2⟩
      | true =>
        obtain ⟨z, rfl⟩ := t3 rfl
        refine iteT ?_
        refine ⟨_, rfl, Nat.zero_le _, fun e he => ?_⟩
        have hL2 : upd H1 e (.lst []) q = some (.lst (g.map Pt.v)) := by
          rw [upd_ne (ne_of_none hL he)]
          exact hL
        have s2 : Same H (upd H1 e (.lst [])) := fun b o hb => by
          rw [upd_ne (ne_of_none (s1 b o hb) he)]
          exact s1 b o hb
        refine ⟨.list (g.map Pt.d), .list [], .lst (SqL.of hL2) (dp_parts g), .lst (SqL.of upd_same) .nil, shaped_parts g v4, by decide, _, rfl, ?_⟩
        rw [list_ne_nil]
        -- the elif: a piece behind no piece
        have elif : nstep g (.s z) = (if z = "" then g else g ++ [.s z]) → (tIfS (tTest (tOp rNe (tVar 2) (tC (.str "")))) (tDrop (tBM K "list" rAppend (tVar 1) (tCons (tVar 2) tNil))) tNext)
            { nx := fun σ H' => (∃ v : Option V, σ = [some (.ref a), some (.ref q), v]) ∧ Same H H' ∧ H' q = some (.lst ((nstep g (.s z)).map Pt.v)), rt := Q, ct := fun σ H' => (∃ v : Option V, σ = [some (.ref a), some (.ref q), v]) ∧ Same H H' ∧ H' q = some (.lst ((nstep g (.s z)).map Pt.v)), bk := fun _ _ => True }
            [some (.ref a), some (.ref q), some (.str z)] (upd H1 e (.lst [])) := fun en => by
          refine ⟨_, rfl, rfl, _, rfl, ?_⟩
          by_cases hz : z = ""
          · subst hz
            refine iteF' (by show (!decide (V.str "" = V.str "")) = false; rw [decide_eq_true rfl]; rfl) ?_
            refine ⟨⟨_, rfl⟩, s2, ?_⟩
            rw [hL2, en, if_pos rfl]
          · have ne : (V.str z ≠ V.str "") := fun e => hz (by injection e)
            refine iteT' (by show (!decide (V.str z = V.str "")) = true; rw [decide_eq_false ne]; rfl) ?_
            refine ⟨_, rfl, .inl ⟨rfl, _, SqL.of hL2⟩, _, rfl, q, _, _, rfl, rfl, hL2, ?_, ?_⟩
            · rw [List.length_map]
              exact Nat.lt_of_le_of_lt v3 (by decide)
            · rw [if_neg hz] at en
              obtain ⟨a1, a2⟩ := push _ s2 hL2 en
              exact ⟨⟨_, rfl⟩, a1, a2⟩
        rcases List.eq_nil_or_concat g with rfl | ⟨g', l, rfl⟩
        · refine iteF (iteF ?_)
          exact elif (nstep_first z)
        · rw [List.concat_eq_append] at *
          have en : (List.map Pt.d (g' ++ [l])).isEmpty = false := by
            rw [List.map_append]
            cases List.map Pt.d g' <;> rfl
          rw [en]
          refine iteT ?_
          have hL3 : upd H1 e (.lst []) q = some (.lst (g'.map Pt.v ++ [l.v])) := by
            rw [hL2, List.map_append]
            rfl
          obtain ⟨ty2, tb2, u1, u2, u3, u4⟩ := isi_pt (K := K) (H := upd H1 e (.lst [])) l
          refine ⟨_, rfl, _, rfl, q, _, _, l.v, rfl, rfl, SqL.of hL3, atI_last _ _, l.v, _, ty2, _, tb2, rfl, .ty _, u1, u2, _, rfl, ?_⟩
          cases tb2 with
          | false =>
            obtain ⟨j, rfl⟩ := u4 rfl
            refine iteF ?_
            exact elif (nstep_behind g' j z)
          | true =>
            obtain ⟨y', rfl⟩ := u3 rfl
            refine iteT ?_
            have hsz : y'.length + z.length ≤ sizeLine := by
              have e1 : lets (g' ++ [.s y']) = lets g' + y'.length := by rw [lets_app, lets_one]; rfl
              have e2 := (inv (i + 1)).2.1
              rw [step, nstep_glue, lets_app, lets_one] at e2
              have e3 : (Pt.s (y' ++ z)).let = y'.length + z.length := len_cat y' z
              exact Nat.le_trans (show y'.length + z.length ≤ 100000 by omega) (by decide)
            refine ⟨_, rfl, _, rfl, q, _, _, .str y', rfl, rfl, SqL.of hL3, atI_last _ _, _, rfl, y', z, rfl, rfl, hsz, _, rfl, _, rfl, q, _, _, g'.length, rfl, rfl, hL3, ?_, ?_⟩
            · rw [List.length_append, List.length_map, List.length_singleton]
              unfold ixN
              rw [if_neg (by omega), if_pos (by omega)]
              exact congrArg some (by omega)
            · refine ⟨⟨_, rfl⟩, fun b o hb => by rw [upd_ne (ne_of_none hb hq)]; exact s2 b o hb, ?_⟩
              rw [upd_same, nstep_glue, List.map_append]
              refine congrArg some (congrArg HO.lst ?_)
              rw [List.set_append_right _ _ (by rw [List.length_map]; exact Nat.le_refl _), List.length_map, Nat.sub_self]
              rfl
    · rintro σ H1 ⟨⟨v, rfl⟩, s1, hL⟩
      rw [List.length_map, List.take_length] at hL
      refine ⟨_, rfl, q, _, rfl, .inl ⟨SqL.of hL, fun t ht => ?_⟩⟩
      refine k t _ (fun b o e => by rw [upd_ne (ne_of_none (s1 b o e) ht)]; exact s1 b o e) (s1.free ht) upd_same
end

/-! ### tuples over tuples, as data -/
mutual
inductive Tp (H : Hp) : V → PyData → Prop
  | non : Tp H .non .none
  | bl (b : Bool) : Tp H (.bl b) (.bool b)
  | int (i : Int) : Tp H (.int i) (.int i)
  | str (x : Str) : Tp H (.str x) (.str x)
  | tup {a : Addr} {xs : List V} {ds : List PyData} : H a = some (.tup xs) → TpAll H xs ds → Tp H (.ref a) (.tuple ds)
inductive TpAll (H : Hp) : List V → List PyData → Prop
  | nil : TpAll H [] []
  | cons {v : V} {vs : List V} {d : PyData} {ds : List PyData} : Tp H v d → TpAll H vs ds → TpAll H (v :: vs) (d :: ds)
end
/-- all tuples stand -/
def TK (H H' : Hp) : Prop := ∀ b xs, H b = some (.tup xs) → H' b = some (.tup xs)
theorem TK.trans {H H1 H2 : Hp} (a : TK H H1) (b : TK H1 H2) : TK H H2 := fun x o e => b x o (a x o e)
mutual
theorem Tp.mono {H H' : Hp} (k : TK H H') : ∀ {v : V} {d : PyData}, Tp H v d → Tp H' v d
  | _, _, .non => .non
  | _, _, .bl b => .bl b
  | _, _, .int i => .int i
  | _, _, .str x => .str x
  | _, _, .tup h hs => .tup (k _ _ h) (TpAll.mono k hs)
theorem TpAll.mono {H H' : Hp} (k : TK H H') : ∀ {v : List V} {d : List PyData}, TpAll H v d → TpAll H' v d
  | _, _, .nil => .nil
  | _, _, .cons h hs => .cons (Tp.mono k h) (TpAll.mono k hs)
end
mutual
theorem Tp.dp {K : PySem.W.Frag} {H : Hp} : ∀ {v : V} {d : PyData}, Tp H v d → Dp K H v d
  | _, _, .non => .non
  | _, _, .bl b => .bl b
  | _, _, .int i => .int i
  | _, _, .str x => .str x
  | _, _, .tup h hs => .tup (SqT.of h) (TpAll.dp hs)
theorem TpAll.dp {K : PySem.W.Frag} {H : Hp} : ∀ {v : List V} {d : List PyData}, TpAll H v d → DpAll K H v d
  | _, _, .nil => .nil
  | _, _, .cons h hs => .cons (Tp.dp h) (TpAll.dp hs)
end
theorem tp_parts {H : Hp} : ∀ r : Rc, TpAll H (r.map Pt.v) (r.map Pt.d)
  | [] => .nil
  | .s z :: r => .cons (.str z) (tp_parts r)
  | .b i :: r => .cons (.int i) (tp_parts r)
theorem TpAll.map {H : Hp} {α : Type} {g : α → V} {e : α → PyData} : ∀ {l : List α}, (∀ x ∈ l, Tp H (g x) (e x)) → TpAll H (l.map g) (l.map e)
  | [], _ => .nil
  | x :: r, h => .cons (h x List.mem_cons_self) (TpAll.map fun y hy => h y (List.mem_cons_of_mem _ hy))
theorem TpAll.app {H : Hp} {a b : List V} {d e : List PyData} (h : TpAll H a d) (h2 : TpAll H b e) : TpAll H (a ++ b) (d ++ e) := by
  induction a generalizing d with
  | nil =>
    cases h
    exact h2
  | cons v r ih =>
    cases h with
    | cons h1 hr => exact .cons h1 (ih hr)
theorem TpAll.get {H : Hp} : ∀ {vs : List V} {ds : List PyData} {i : Nat} {d : PyData}, TpAll H vs ds → ds[i]? = some d → ∃ v, vs[i]? = some v ∧ Tp H v d
  | _, _, _, _, .nil, h => by simp at h
  | _, _, 0, _, .cons h _, e => by
    simp at e
    subst e
    exact ⟨_, rfl, h⟩
  | _, _, i + 1, _, .cons _ hs, e => by
    have e' : _ := e
    rw [List.getElem?_cons_succ] at e'
    obtain ⟨v, h1, h2⟩ := TpAll.get hs e'
    exact ⟨v, by rw [List.getElem?_cons_succ]; exact h1, h2⟩
theorem TpAll.len {H : Hp} : ∀ {vs : List V} {ds : List PyData}, TpAll H vs ds → vs.length = ds.length
  | _, _, .nil => rfl
  | _, _, .cons _ hs => by rw [List.length_cons, List.length_cons, TpAll.len hs]
theorem Same.tk {H H' : Hp} (s : Same H H') : TK H H' := fun b xs e => s b _ e
theorem Kp.tk {p c : Addr} {H H' : Hp} (k : Kp p c H H') (hP : Pen H p c) : TK H H' := fun b xs e => by
  obtain ⟨ns, i, j, h1, _⟩ := hP
  exact k.but b _ (ne_of e h1 (by intro z; cases z)) e
theorem tk_new {H : Hp} {q : Addr} {o : HO} (hq : H q = none) : TK H (upd H q o) := fun b xs e => by
  rw [upd_ne (ne_of_none e hq)]
  exact e
theorem tk_lst {H : Hp} {q : Addr} {ys : List V} {o : HO} (hq : H q = some (.lst ys)) : TK H (upd H q o) := fun b xs e => by
  rw [upd_ne (ne_of e hq (by intro z; cases z))]
  exact e
theorem same_new {H : Hp} {q : Addr} {o : HO} (hq : H q = none) : Same H (upd H q o) := fun b u e => by
  rw [upd_ne (ne_of_none e hq)]
  exact e
theorem Pen.same {H H' : Hp} {p c : Addr} (h : Pen H p c) (s : Same H H') : Pen H' p c := by
  obtain ⟨ns, i, j, h1, h2⟩ := h
  exact ⟨ns, i, j, s _ _ h1, s _ _ h2⟩
theorem Kp.same {H H1 H2 : Hp} {p c : Addr} (k : Kp p c H H1) (s : Same H1 H2) : Kp p c H H2 := ⟨fun b o n e => s b o (k.but b o n e), k.pen.same s⟩

/-! ### a heap without one list -/
def hide (H : Hp) (l : Addr) : Hp := fun b => if b = l then none else H b
theorem hide_ne {H : Hp} {l b : Addr} (h : b ≠ l) : hide H l b = H b := if_neg h
theorem hide_self {H : Hp} {l : Addr} : hide H l l = none := if_pos rfl
theorem Pen.hide {H : Hp} {p c l : Addr} (h : Pen H p c) (n1 : l ≠ p) (n2 : l ≠ c) : Pen (hide H l) p c := by
  obtain ⟨ns, i, j, h1, h2⟩ := h
  exact ⟨ns, i, j, by rw [hide_ne n1.symm]; exact h1, by rw [hide_ne n2.symm]; exact h2⟩
theorem Kp.hide0 {H : Hp} {p c l : Addr} (h : Pen H p c) : Kp p c (hide H l) H := by
  refine ⟨fun b o n e => ?_, h⟩
  by_cases hb : b = l
  · rw [hb, hide_self] at e
    cases e
  · rw [hide_ne hb] at e
    exact e
theorem Kp.thru {H H1 H2 : Hp} {p c l : Addr} (k1 : Kp p c H H1) (k2 : Kp p c (hide H1 l) H2) (hl : H l = none) : Kp p c H H2 :=
  ⟨fun b o n e => k2.but b o n (by rw [hide_ne (ne_of_none e hl)]; exact k1.but b o n e), k2.pen⟩
theorem Kp.unhide {H H' : Hp} {p c l b : Addr} {o : HO} (k : Kp p c (hide H l) H') (n : b ≠ p) (nl : b ≠ l) (h : H b = some o) : H' b = some o := k.but b o n (by rw [hide_ne nl]; exact h)
theorem Kp.freeH {H H' : Hp} {p c l t : Addr} {o : HO} (k : Kp p c (hide H l) H') (hl : H' l = some o) (ht : H' t = none) : H t = none := by
  have h := k.free ht
  rw [hide_ne (ne_of_none hl ht).symm] at h
  exact h

/-! ### lists of small numbers -/
def iN (ls : List Nat) : List Int := ls.map fun (i : Nat) => (i : Int)
theorem rg_eq (n : Nat) : rgV 0 (n : Int) = (iN (List.range n)).map V.int := by
  unfold rgV iN
  rw [List.map_map]
  have e : ((n : Int) - 0).toNat = n := by omega
  rw [e]
  refine List.map_congr_left fun i _ => ?_
  show V.int (0 + (i : Int)) = V.int (i : Int)
  rw [Int.zero_add]
theorem flat_ints (ns : List Int) : (ns.map V.int).all flatV = true := by
  rw [List.all_eq_true]
  intro x hx
  obtain ⟨z, _, rfl⟩ := List.mem_map.mp hx
  rfl
theorem first_hit {xs : List V} {t : V → Bool} (h : xs.any t = true) : ∃ (j : Nat) (z : V), xs[j]? = some z ∧ t z = true ∧ ∀ (m : Nat) (z' : V), m < j → xs[m]? = some z' → t z' = false := by
  induction xs with
  | nil => cases h
  | cons x r ih =>
    cases hx : t x with
    | true => exact ⟨0, x, rfl, hx, fun m _ hm => absurd hm (Nat.not_lt_zero m)⟩
    | false =>
      rw [List.any_cons, hx, Bool.false_or] at h
      obtain ⟨j, z, h1, h2, h3⟩ := ih h
      refine ⟨j + 1, z, by rw [List.getElem?_cons_succ]; exact h1, h2, fun m z' hm e => ?_⟩
      cases m with
      | zero =>
        obtain rfl : x = z' := Option.some.inj e
        exact hx
      | succ m =>
        rw [List.getElem?_cons_succ] at e
        exact h3 m z' (Nat.lt_of_succ_lt_succ hm) e
theorem erase_map {α β : Type} (g : α → β) : ∀ (l : List α) (k : Nat), (l.map g).eraseIdx k = (l.eraseIdx k).map g
  | [], _ => rfl
  | _ :: _, 0 => rfl
  | x :: r, k + 1 => by
    rw [List.map_cons, List.eraseIdx_cons_succ, List.eraseIdx_cons_succ, List.map_cons, erase_map g r k]

theorem erase_perm {α : Type} : ∀ (l : List α) (k : Nat) (h : k < l.length), (l[k] :: l.eraseIdx k).Perm l
  | x :: r, 0, _ => List.Perm.refl _
  | x :: r, k + 1, h => by
    rw [List.eraseIdx_cons_succ, List.getElem_cons_succ]
    exact (List.Perm.swap x _ _).trans ((erase_perm r k (Nat.lt_of_succ_lt_succ h)).cons x)


/-! ### a drawn recipe -/
def spFill : Sp := fun vs H Q _ => ∃ (p c l : Addr) (ls : List Nat) (own : Int), vs = [.ref p, .ref l, .int own] ∧ Pen H p c ∧ l ≠ p ∧ l ≠ c ∧ H l = some (.lst ((iN ls).map V.int)) ∧ ls.length ≤ 100 ∧
  ∀ (r : Rc) (t : Addr) (ls' : List Nat) H', Kp p c (hide H l) H' → H t = none → H' t = some (.tup (r.map Pt.v)) → H' l = some (.lst ((iN ls').map V.int)) → (bufs r ++ ls').Perm ls → lets r ≤ 10 → lowR r → r.length ≤ 5 → Q (.ref t) H'
theorem sc_fill : FnScope ["pen", "left", "own", "parts", "lap", "at"] ["pen", "left", "own"] (fnScope st_law_fill) := fnScope_by (by decide +kernel)
/-- between two turns: the parts so far at q, what is left at l -/
structure FI (H : Hp) (p c l q : Addr) (ls : List Nat) (n : Nat) (ps : Rc) (ls' : List Nat) (H' : Hp) : Prop where
  kp : Kp p c (hide H l) H'
  hq : H' q = some (.lst (ps.map Pt.v))
  hl : H' l = some (.lst ((iN ls').map V.int))
  perm : (bufs ps ++ ls').Perm ls
  lt : lets ps ≤ 2 * n
  len : ps.length ≤ n
  low : lowR ps
theorem FI.more {H : Hp} {p c l q : Addr} {ls : List Nat} {n m : Nat} {ps : Rc} {ls' : List Nat} {H' : Hp} (h : FI H p c l q ls n ps ls' H') (hm : n ≤ m) : FI H p c l q ls m ps ls' H' :=
  ⟨h.kp, h.hq, h.hl, h.perm, Nat.le_trans h.lt (Nat.mul_le_mul_left 2 hm), Nat.le_trans h.len hm, h.low⟩
theorem FI.drawn {H : Hp} {p c l q : Addr} {ls : List Nat} {n : Nat} {ps : Rc} {ls' : List Nat} {H1 H2 : Hp} (h : FI H p c l q ls n ps ls' H1) (np : q ≠ p) (nl : l ≠ p) (k : Kp p c H1 H2) : FI H p c l q ls n ps ls' H2 :=
  ⟨h.kp.trans k, k.but _ _ np h.hq, k.but _ _ nl h.hl, h.perm, h.lt, h.len, h.low⟩
theorem FI.new {H : Hp} {p c l q e : Addr} {o : HO} {ls : List Nat} {n : Nat} {ps : Rc} {ls' : List Nat} {H1 : Hp} (h : FI H p c l q ls n ps ls' H1) (he : H1 e = none) : FI H p c l q ls n ps ls' (upd H1 e o) :=
  ⟨h.kp.new he, by rw [upd_ne (ne_of_none h.hq he)]; exact h.hq, by rw [upd_ne (ne_of_none h.hl he)]; exact h.hl, h.perm, h.lt, h.len, h.low⟩
/-- a piece put behind -/
theorem FI.piece {H : Hp} {p c l q : Addr} {ls : List Nat} {n : Nat} {ps : Rc} {ls' : List Nat} {H1 : Hp} {z : Str} (hP : Pen (hide H l) p c) (hq : H q = none) (nq : q ≠ l) (h : FI H p c l q ls n ps ls' H1) (hz : Tx 2 z) :
    FI H p c l q ls (n + 1) (ps ++ [.s z]) ls' (upd H1 q (.lst (ps.map Pt.v ++ [.str z]))) := by
  have hq0 : hide H l q = none := by rw [hide_ne nq]; exact hq
  refine ⟨h.kp.put hP hq0, ?_, ?_, ?_, ?_, ?_, ?_⟩
  · rw [upd_same, List.map_append]
    rfl
  · rw [upd_ne nq.symm]
    exact h.hl
  · rw [bufs_app, bufs_one]
    show (bufs ps ++ [] ++ ls').Perm ls
    rw [List.append_nil]
    exact h.perm
  · rw [lets_app, lets_one]
    have a := h.lt
    have b : (Pt.s z).let ≤ 2 := hz.len
    omega
  · rw [List.length_append, List.length_singleton]
    have := h.len
    omega
  · exact lowR_app h.low (lowR_one hz.low)
/-- a buffer taken out of what is left, put behind -/
theorem FI.take {H : Hp} {p c l q : Addr} {ls : List Nat} {n : Nat} {ps : Rc} {ls' : List Nat} {H1 : Hp} {k : Nat} (hP : Pen (hide H l) p c) (hq : H q = none) (nq : q ≠ l) (h : FI H p c l q ls n ps ls' H1) (hk : k < ls'.length) :
    FI H p c l q ls (n + 1) (ps ++ [.b ls'[k]]) (ls'.eraseIdx k) (upd (upd H1 l (.lst (((iN ls').map V.int).eraseIdx k))) q (.lst (ps.map Pt.v ++ [.int ls'[k]]))) := by
  have hq0 : hide H l q = none := by rw [hide_ne nq]; exact hq
  refine ⟨(h.kp.put hP hide_self).put hP hq0, ?_, ?_, ?_, ?_, ?_, ?_⟩
  · rw [upd_same, List.map_append]
    rfl
  · rw [upd_ne nq.symm, upd_same]
    unfold iN
    rw [erase_map, erase_map]
  · rw [bufs_app, bufs_one]
    show (bufs ps ++ [ls'[k]] ++ ls'.eraseIdx k).Perm ls
    rw [List.append_assoc]
    exact ((erase_perm ls' k hk).append_left _).trans h.perm
  · rw [lets_app, lets_one]
    have a := h.lt
    show lets ps + 0 ≤ 2 * (n + 1)
    omega
  · rw [List.length_append, List.length_singleton]
    have := h.len
    omega
  · exact lowR_app h.low (lowR_one True.intro)
theorem menu012 : ∀ z ∈ ([0, 1, 1, 1, 1, 2] : List Int), 0 ≤ z ∧ z ≤ 2 := by decide
section
variable {P : Program} {w : World} {K : PySem.W.Frag} {mg : Str → Option Value} {base : Heap} {f : Addr} {fd : FuncData}
theorem cal_fill (F : C8.Def K mg "_law_fill" st_law_fill f fd) (b : Binds K fd ["pen", "left", "own"] []) (B : BN2 mg) (Cd : Cal P w K mg base 2 "_law_draw" spDraw []) (Co : Cal P w K mg base 3 "_law_one_of" (spOne K) [])
    (Cp : Cal P w K mg base 4 "_law_piece" spPiece []) (Cn : Cal P w K mg base 1 "_law_normal" (spNormal K) []) : Cal P w K mg base 5 "_law_fill" spFill [] := by
  refine cal0 F b .nil sc_fill (fun vs H Q E h => ?_) (fun cdv A outer s H vs Q E hr h => ?_)
  · obtain ⟨p, c, l, ls, own, rfl, _⟩ := h
    rfl
  · obtain ⟨p, c, l, ls, own, rfl, hP, nlp, nlc, hl, hln, k⟩ := h
    refine ⟨_, pss_cons (ps_set (i := 3) sc_fill.nd rfl (Or.inl rfl) (pe_lst pa_nil))
      (pss_cons (ps_for PassesOwn.never rfl (pi_range1 rfl B.range (pa_cons (pe_c Co hr (by decide) (by rfl) (pa_cons (pv 0) (pa_cons (pe_lst (pa_cons pe_int (pa_cons pe_int (pa_cons pe_int (pa_cons pe_int (pa_cons pe_int (pa_cons pe_int pa_nil))))))) pa_nil))) pa_nil)) (pg_name (i := 4) sc_fill.nd rfl (Or.inl rfl))
        (pss_cut (ps_if (pt_cmpR op_eq (pe_c Cd hr (by decide) (by rfl) (pa_cons (pv 0) (pa_cons pe_int pa_nil))) pe_int (nomark _))
            (pss_one (ps_expr (pe_bm PySem.F.plainAttrs_list PySem.F.slot_list_append PySem.F.type_list_append mt_append (pv 3) (pa_cons (pe_c Cp hr (by decide) (by rfl) (pa_cons (pv 0) (pa_cons pe_int pa_nil))) pa_nil)))) pss_nil)
          (pss_one (ps_if (pt_cmpR (op_neD hr.units) (pv 1) (pe_lst pa_nil) (nomark _))
            (pss_cut (ps_set (i := 5) sc_fill.nd rfl (Or.inl rfl) (pe_ifExp (PW.pt (pw_and (pt_cmpR op_in_seq (pv 2) (pv 1) (by with_unfolding_all rfl)) (pw_and1 (pt_cmpR op_gt (pe_c Cd hr (by decide) (by rfl) (pa_cons (pv 0) (pa_cons pe_int pa_nil))) pe_int (nomark _)))))
                (pe_bm PySem.F.plainAttrs_list PySem.F.slot_list_index PySem.F.type_list_index mt_index (pv 1) (pa_cons (pv 2) pa_nil))
                (pe_c Cd hr (by decide) (by rfl) (pa_cons (pv 0) (pa_cons (pe_callB call_len_seq (by rfl) B.len PySem.boot_len (pa_cons (pv 1) pa_nil)) pa_nil)))))
              (pss_one (ps_expr (pe_bm PySem.F.plainAttrs_list PySem.F.slot_list_append PySem.F.type_list_append mt_append (pv 3) (pa_cons (pe_bm PySem.F.plainAttrs_list PySem.F.slot_list_pop PySem.F.type_list_pop mt_popAt (pv 1) (pa_cons (pv 5) pa_nil)) pa_nil))))) pss_nil))))
      (pss_cut (ps_if (pt_cmpR op_eq (pe_c Cd hr (by decide) (by rfl) (pa_cons (pv 0) (pa_cons pe_int pa_nil))) pe_int (nomark _))
            (pss_one (ps_expr (pe_bm PySem.F.plainAttrs_list PySem.F.slot_list_append PySem.F.type_list_append mt_append (pv 3) (pa_cons (pe_c Cp hr (by decide) (by rfl) (pa_cons (pv 0) (pa_cons pe_int pa_nil))) pa_nil)))) pss_nil)
      (pss_one (ps_ret (pe_c Cn hr (by decide) (by rfl) (pa_cons (pv 3) pa_nil)))))), ?_⟩
    have hPh := hP.hide nlp nlc
    refine ⟨Nat.zero_le _, fun q hq => ?_⟩
    have nqp : q ≠ p := hP.ne hq
    have nql : q ≠ l := (ne_of_none hl hq).symm
    have I0 : FI H p c l q ls 0 [] ls (upd H q (.lst [])) := ⟨(Kp.hide0 hP).new hq, upd_same, by rw [upd_ne nql.symm]; exact hl, List.Perm.refl _, Nat.le_refl _, Nat.le_refl _, fun x hx => by cases hx⟩
    -- a piece, perhaps, in both places
    have perhaps : ∀ (n : Nat) (ps : Rc) (ls' : List Nat) (H1 : Hp) (G : Hp → Prop), n ≤ 100 → FI H p c l q ls n ps ls' H1 → (∀ ps' H2, FI H p c l q ls (n + 1) ps' ls' H2 → G H2) →
        ∀ (d : Int) (H2 : Hp), Kp p c H1 H2 → (if decide (V.int d = V.int 0) = true then
          (spPiece [.ref p, .int 2] H2 (fun x H3 => rAppend (.ref q) [x] H3 fun _ H4 => G H4) E0) else G H2) := by
      intro n ps ls' H1 G hn h kG d H2 kk
      have h2 := h.drawn nqp nlp kk
      refine ite2 (fun _ => ?_) (fun _ => ?_)
      · refine ⟨p, c, 2, rfl, h2.kp.pen, by decide, by decide, fun z H3 z0 hz k3 => ?_⟩
        have h3 := h2.drawn nqp nlp k3
        refine ⟨q, _, _, rfl, rfl, h3.hq, ?_, kG _ _ (h3.piece hPh hq nql hz)⟩
        rw [List.length_map]
        exact Nat.lt_of_le_of_lt (Nat.le_trans h.len hn) (by decide)
      · exact kG ps H2 (h2.more (Nat.le_succ _))
    refine ⟨_, rfl, (by show 6 ≤ sizeLine; decide), fun a ha => ⟨p, c, I0.kp.pen.new ha, .inl ⟨a, _, rfl, I0.kp.pen.ne ha, SqL.of upd_same, by decide, by decide, fun x H1 hx k1 => ?_⟩⟩⟩
    obtain ⟨m, hm, rfl⟩ : ∃ m : Nat, m ≤ 2 ∧ x = V.int m := by
      have hx' : x ∈ ([0, 1, 1, 1, 1, 2] : List Int).map V.int := hx
      obtain ⟨z, h1, h2⟩ := List.mem_map.mp hx'
      obtain ⟨h3, h4⟩ := menu012 z h1
      exact ⟨z.toNat, by omega, by rw [← h2, Int.toNat_of_nonneg h3]⟩
    have I1 := (I0.new (o := .lst ([0, 1, 1, 1, 1, 2].map V.int)) ha).drawn nqp nlp k1
    refine ⟨m, rfl, by omega, by omega, for_range (n := (m : Int).toNat) (fun i σ H' => (∃ v4 v5 : Option V, σ = [some (.ref p), some (.ref l), some (.int own), some (.ref q), v4, v5]) ∧ ∃ ps ls', FI H p c l q ls (2 * i) ps ls' H') ⟨⟨_, _, rfl⟩, _, _, I1⟩ ?_ ?_⟩
    · rintro i σ H2 hi ⟨⟨v4, v5, rfl⟩, ps, ls', I⟩
      refine ⟨fun σ H' => σ = [some (.ref p), some (.ref l), some (.int own), some (.ref q), some (.int (0 + (i : Int))), v5] ∧ ∃ ps, FI H p c l q ls (2 * i + 1) ps ls' H', ?_, ?_⟩
      · refine ⟨_, rfl, p, c, 3, rfl, I.kp.pen, by decide, by decide, fun d H3 d0 d1 k3 => ⟨rfl, _, rfl, ?_⟩⟩
        have I3 := I.drawn nqp nlp k3
        have z := perhaps (2 * i) ps ls' H2 (fun H' => [some (V.ref p), some (.ref l), some (.int own), some (.ref q), some (.int (0 + (i : Int))), v5] = [some (V.ref p), some (.ref l), some (.int own), some (.ref q), some (.int (0 + (i : Int))), v5] ∧ ∃ ps, FI H p c l q ls (2 * i + 1) ps ls' H') (by omega) I (fun ps' H4 h4 => ⟨rfl, ps', h4⟩) d H3 k3
        by_cases hd : decide (V.int d = V.int 0) = true
        · rw [if_pos hd] at z
          refine iteT' hd ?_
          exact ⟨_, rfl, .inl ⟨rfl, _, SqL.of I3.hq⟩, _, rfl, z⟩
        · rw [if_neg hd] at z
          exact iteF' (eq_false_of_ne_true hd) z
      · rintro σ H3 ⟨rfl, ps3, I3⟩
        refine ⟨_, rfl, Nat.zero_le _, fun e he => ?_⟩
        have I4 := I3.new (o := .lst []) he
        refine ⟨.list ((iN ls').map PyData.int), .list [], .lst (SqL.of I4.hl) (dp_ints _), .lst (SqL.of upd_same) .nil, shaped_ints _, by decide, _, rfl, ?_⟩
        rw [ints_ne_nil]
        by_cases hne : ls' = []
        · subst hne
          refine iteF ?_
          exact ⟨⟨_, _, rfl⟩, ps3, [], by rw [Nat.mul_succ]; exact I4.more (Nat.le_succ _)⟩
        · have hpos : 0 < ls'.length := List.length_pos_iff.mpr hne
          have hle : ls'.length ≤ 100 := by
            have := I4.perm.length_eq
            rw [List.length_append] at this
            omega
          have hem : (!(iN ls').isEmpty) = true := by
            cases ls' with
            | nil => exact absurd rfl hne
            | cons a r => rfl
          rw [hem]
          refine iteT ?_
          refine ⟨fun σ H' => (∃ k : Nat, k < ls'.length ∧ σ = [some (.ref p), some (.ref l), some (.int own), some (.ref q), some (.int (0 + (i : Int))), some (.int k)]) ∧ FI H p c l q ls (2 * i + 1) ps3 ls' H', ?_, ?_⟩
          · -- which one: the own one, or a drawn one
            have other : ∀ H4, FI H p c l q ls (2 * i + 1) ps3 ls' H4 → spDraw [.ref p, .int (((iN ls').map V.int).length : Nat)] H4 (fun x H' => (∃ k : Nat, k < ls'.length ∧ [some (V.ref p), some (.ref l), some (.int own), some (.ref q), some (.int (0 + (i : Int))), some x] = [some (.ref p), some (.ref l), some (.int own), some (.ref q), some (.int (0 + (i : Int))), some (.int k)]) ∧ FI H p c l q ls (2 * i + 1) ps3 ls' H') E0 := fun H4 J => by
              have en : ((iN ls').map V.int).length = ls'.length := by
                unfold iN
                rw [List.length_map, List.length_map]
              rw [en]
              refine ⟨p, c, _, rfl, J.kp.pen, by omega, log_small (by omega) (by omega), fun d H5 d0 d1 k5 => ⟨⟨d.toNat, by omega, ?_⟩, J.drawn nqp nlp k5⟩⟩
              rw [Int.toNat_of_nonneg d0]
            refine ⟨_, rfl, _, rfl, l, _, rfl, .inl (SqL.of I4.hl), rfl, flat_ints _, _, rfl, ?_⟩
            cases hin : inV (.int own) ((iN ls').map V.int) with
            | false =>
              refine iteF (iteF ?_)
              exact ⟨_, rfl, _, rfl, l, _, rfl, .inl (SqL.of I4.hl), other _ I4⟩
            | true =>
              refine iteT ?_
              refine ⟨_, rfl, p, c, 3, rfl, I4.kp.pen, by decide, by decide, fun d H5 d0 d1 k5 => ?_⟩
              have I5 := I4.drawn nqp nlp k5
              refine ⟨_, _, rfl, rfl, _, rfl, ?_⟩
              refine ite2 (fun _ => ?_) (fun _ => ?_)
              · obtain ⟨j, z, j1, j2, j3⟩ := first_hit (xs := (iN ls').map V.int) (t := fun y => eqV y (.int own)) hin
                have hj : j < ls'.length := by
                  have q := (List.getElem?_eq_some_iff.mp j1).1
                  unfold iN at q
                  rw [List.length_map, List.length_map] at q
                  exact q
                exact ⟨_, rfl, .inl ⟨rfl, _, SqL.of I5.hl⟩, _, rfl, l, _, _, j, z, rfl, rfl, SqL.of I5.hl, rfl, flat_ints _, j1, j2, j3, ⟨j, hj, rfl⟩, I5⟩
              · exact ⟨_, rfl, _, rfl, l, _, rfl, .inl (SqL.of I5.hl), other _ I5⟩
          · rintro σ H4 ⟨⟨k', hk, rfl⟩, I5⟩
            have hlen : ((iN ls').map V.int).length = ls'.length := by
              unfold iN
              rw [List.length_map, List.length_map]
            refine ⟨_, rfl, .inl ⟨rfl, _, SqL.of I5.hq⟩, _, rfl, .inl ⟨rfl, _, SqL.of I5.hl⟩, _, rfl, l, _, _, k', .int (ls'[k'] : Nat), rfl, rfl, I5.hl, by omega, by omega, ?_, ?_, ?_⟩
            · refine (ixN_seq (n := ((iN ls').map V.int).length) (i := (k' : Int)) (j := k') ?_).1
              unfold ixN
              rw [if_pos (by omega), if_pos (by omega)]
              exact congrArg some (by omega)
            · unfold iN
              rw [List.getElem?_map, List.getElem?_map, List.getElem?_eq_getElem hk]
              rfl
            · refine ⟨q, _, _, rfl, rfl, (by rw [upd_ne nql]; exact I5.hq), ?_, ⟨_, _, rfl⟩, ps3 ++ [.b ls'[k']], ls'.eraseIdx k', ?_⟩
              · rw [List.length_map]
                exact Nat.lt_of_le_of_lt (Nat.le_trans I5.len (show 2 * i + 1 ≤ 100 by omega)) (by decide)
              · rw [Nat.mul_succ]
                exact I5.take hPh hq nql hk
    · rintro σ H2 ⟨⟨v4, v5, rfl⟩, ps, ls', I⟩
      have I' := I.more (show 2 * (m : Int).toNat ≤ 4 by omega)
      refine ⟨fun σ H' => σ = [some (.ref p), some (.ref l), some (.int own), some (.ref q), v4, v5] ∧ ∃ ps, FI H p c l q ls 5 ps ls' H', ?_, ?_⟩
      · refine ⟨_, rfl, p, c, 2, rfl, I.kp.pen, by decide, by decide, fun d H3 d0 d1 k3 => ⟨rfl, _, rfl, ?_⟩⟩
        have I3 := I'.drawn nqp nlp k3
        have z := perhaps 4 ps ls' H2 (fun H' => [some (V.ref p), some (.ref l), some (.int own), some (.ref q), v4, v5] = [some (V.ref p), some (.ref l), some (.int own), some (.ref q), v4, v5] ∧ ∃ ps, FI H p c l q ls 5 ps ls' H') (by omega) I' (fun ps' H4 h4 => ⟨rfl, ps', h4⟩) d H3 k3
        by_cases hd : decide (V.int d = V.int 0) = true
        · rw [if_pos hd] at z
          refine iteT' hd ?_
          exact ⟨_, rfl, .inl ⟨rfl, _, SqL.of I3.hq⟩, _, rfl, z⟩
        · rw [if_neg hd] at z
          exact iteF' (eq_false_of_ne_true hd) z
      · rintro σ H3 ⟨rfl, ps3, I3⟩
        have hlen3 : ps3.length ≤ 5 := I3.len
        have hlet3 : lets ps3 ≤ 10 := I3.lt
        refine ⟨_, rfl, q, ps3, rfl, SqL.of I3.hq, Nat.le_trans hlen3 (by decide), Nat.le_trans hlet3 (by decide), I3.low, fun t H4 s4 t3 t4 => ?_⟩
        obtain ⟨n1, n2, n3, n4⟩ := normal_ok ps3 []
        refine k (normal ps3) t ls' H4 (I3.kp.same s4) (I3.kp.freeH I3.hl t3) t4 (s4 _ _ I3.hl) ?_ ?_ ?_ ?_
        · have e : bufs (normal ps3) = bufs ps3 := n1
          rw [e]
          exact I3.perm
        · have e : lets (normal ps3) = 0 + lets ps3 := n2
          omega
        · exact n4 (fun x hx => by cases hx) I3.low
        · have e : (normal ps3).length ≤ 0 + ps3.length := n3
          omega
end

/-! ### the recipes of an entry -/
def Rc.d (r : Rc) : PyData := .tuple (r.map Pt.d)
def fillsD (fs : List Rc) : PyData := .tuple (fs.map Rc.d)
/-- a recipe as it is drawn -/
structure ROk (r : Rc) : Prop where
  lt : lets r ≤ 10
  low : lowR r
  len : r.length ≤ 5
structure FOk (n : Nat) (fs : List Rc) : Prop where
  len : fs.length = n
  nd : (fs.flatMap bufs).Nodup
  lt : ∀ i ∈ fs.flatMap bufs, i < n
  each : ∀ r ∈ fs, ROk r
theorem tp_rc {H : Hp} {t : Addr} {r : Rc} (h : H t = some (.tup (r.map Pt.v))) : Tp H (.ref t) r.d := .tup h (tp_parts r)

/-- what a dict of recipes holds -/
abbrev Ent := Nat × Addr × Rc
def kvsE (xs : List Ent) : List (Key × V) := xs.map fun x => (Sum.inl (x.1 : Int), V.ref x.2.1)
def pickE (xs : List Ent) (n : Nat) : Addr × Rc := ((xs.find? fun x => decide (x.1 = n)).map (·.2)).getD (0, [])
theorem put_new (xs : List Ent) (n : Nat) (v : V) (h : n ∉ xs.map (·.1)) : putK (kvsE xs) (Sum.inl (n : Int)) v = kvsE xs ++ [(Sum.inl (n : Int), v)] := by
  unfold putK
  rw [if_neg]
  intro z
  rw [List.any_eq_true] at z
  obtain ⟨kv, h1, h2⟩ := z
  obtain ⟨x, h3, rfl⟩ := List.mem_map.mp h1
  have e : (Sum.inl (x.1 : Int) : Key) = Sum.inl (n : Int) := of_decide_eq_true h2
  have e2 : (x.1 : Int) = (n : Int) := Sum.inl.inj e
  have e3 : x.1 = n := by omega
  exact h (e3 ▸ List.mem_map_of_mem h3)
theorem pick_val : ∀ (xs : List Ent) (n : Nat), n ∈ xs.map (·.1) → valV (kvsE xs) (Sum.inl (n : Int)) = some (.ref (pickE xs n).1) ∧ (n, pickE xs n) ∈ xs
  | [], _, h => by cases h
  | x :: r, n, h => by
    by_cases hx : x.1 = n
    · have e1 : pickE (x :: r) n = x.2 := by
        unfold pickE
        rw [List.find?_cons_of_pos (by exact decide_eq_true hx)]
        rfl
      rw [e1]
      refine ⟨valV_pos (by show (Sum.inl (x.1 : Int) : Key) = Sum.inl (n : Int); rw [hx]), ?_⟩
      rw [← hx]
      exact List.mem_cons_self
    · have hr : n ∈ r.map (·.1) := by
        rw [List.map_cons] at h
        rcases List.mem_cons.mp h with h | h
        · exact absurd h.symm hx
        · exact h
      obtain ⟨h1, h2⟩ := pick_val r n hr
      have e1 : pickE (x :: r) n = pickE r n := by
        unfold pickE
        rw [List.find?_cons_of_neg (by intro z; exact hx (of_decide_eq_true z))]
      rw [e1]
      refine ⟨(valV_neg (p := (Sum.inl (x.1 : Int), V.ref x.2.1)) (r := kvsE r) (fun z => hx ?_)).trans h1, List.mem_cons_of_mem _ h2⟩
      have e2 : (x.1 : Int) = (n : Int) := Sum.inl.inj z
      omega
theorem pick_self : ∀ (xs : List Ent), (xs.map (·.1)).Nodup → ∀ x ∈ xs, pickE xs x.1 = x.2
  | [], _, _, h => by cases h
  | y :: r, nd, x, h => by
    rw [List.map_cons, List.nodup_cons] at nd
    rcases List.mem_cons.mp h with rfl | h
    · unfold pickE
      rw [List.find?_cons_of_pos (by exact decide_eq_true rfl)]
      rfl
    · have hne : ¬ y.1 = x.1 := fun z => nd.1 (z ▸ List.mem_map_of_mem h)
      have e1 : pickE (y :: r) x.1 = pickE r x.1 := by
        unfold pickE
        rw [List.find?_cons_of_neg (by intro z; exact hne (of_decide_eq_true z))]
      rw [e1]
      exact pick_self r nd.2 x h
theorem flat_same {α β : Type} {g h : α → List β} : ∀ {l : List α}, (∀ x ∈ l, g x = h x) → l.flatMap g = l.flatMap h
  | [], _ => rfl
  | x :: r, e => by rw [List.flatMap_cons, List.flatMap_cons, e x List.mem_cons_self, flat_same fun y hy => e y (List.mem_cons_of_mem _ hy)]
/-- behind the loop: the recipes in the buffers' order -/
theorem fok_of {n : Nat} {xs : List Ent} {os ls' : List Nat} (he : xs.map (·.1) = os) (ho : os.Perm (List.range n)) (hp : (xs.flatMap (fun x => bufs x.2.2) ++ ls').Perm (List.range n)) (hr : ∀ x ∈ xs, ROk x.2.2) :
    FOk n ((List.range n).map fun i => (pickE xs i).2) := by
  have nd : (xs.map (·.1)).Nodup := by rw [he]; exact ho.nodup_iff.mpr List.nodup_range
  have e1 : xs.flatMap (fun x => bufs x.2.2) = os.flatMap fun i => bufs (pickE xs i).2 := by
    rw [← he, List.flatMap_map]
    exact flat_same fun x hx => by rw [pick_self xs nd x hx]
  have e2 : (((List.range n).map fun i => (pickE xs i).2).flatMap bufs).Perm (xs.flatMap fun x => bufs x.2.2) := by
    rw [e1, List.flatMap_map]
    exact (ho.flatMap_right _).symm
  have nd2 : (xs.flatMap (fun x => bufs x.2.2)).Nodup := (List.nodup_append.mp (hp.nodup_iff.mpr List.nodup_range)).1
  refine ⟨by rw [List.length_map, List.length_range], e2.nodup_iff.mpr nd2, fun i hi => ?_, fun r hr' => ?_⟩
  · have h1 := hp.mem_iff.mp (List.mem_append_left ls' (e2.mem_iff.mp hi))
    exact List.mem_range.mp h1
  · obtain ⟨i, h1, rfl⟩ := List.mem_map.mp hr'
    have h2 : i ∈ xs.map (·.1) := by rw [he]; exact ho.mem_iff.mpr h1
    exact hr _ (pick_val xs i h2).2

def spFills : Sp := fun vs H Q _ => ∃ (p c : Addr) (n : Nat), vs = [.ref p, .int n] ∧ Pen H p c ∧ n ≤ 50 ∧
  ∀ (fs : List Rc) (t : Addr) H', Kp p c H H' → Tp H' (.ref t) (fillsD fs) → FOk n fs → Q (.ref t) H'
/-- a recipe, or None -/
def endD : Option Rc → PyData
  | none => .none
  | some r => r.d
/-- a recipe as it may stand at an end: drawn, or with a letter more -/
structure ROkE (r : Rc) : Prop where
  lt : lets r ≤ 12
  low : lowR r
  len : r.length ≤ 6
theorem ROk.e {r : Rc} (h : ROk r) : ROkE r := ⟨by have := h.lt; omega, h.low, by have := h.len; omega⟩
structure EOk (n : Nat) (r : Rc) : Prop where
  nd : (bufs r).Nodup
  lt : ∀ i ∈ bufs r, i < n
  ok : ROkE r
def spEnd : Sp := fun vs H Q _ => ∃ (p c : Addr) (n : Nat), vs = [.ref p, .int n] ∧ Pen H p c ∧ n ≤ 50 ∧
  ∀ (r : Option Rc) (x : V) H', Kp p c H H' → Tp H' x (endD r) → (∀ q, r = some q → EOk n q ∧ ROk q) → Q x H'
theorem sc_fills : FnScope ["pen", "buffers", "left", "order", "found", "buffer"] ["pen", "buffers"] (fnScope st_law_fills) := fnScope_by (by decide +kernel)
theorem sc_end : FnScope ["pen", "buffers"] ["pen", "buffers"] (fnScope st_law_end) := fnScope_by (by decide +kernel)
section
variable {P : Program} {w : World} {K : PySem.W.Frag} {mg : Str → Option Value} {base : Heap} {f : Addr} {fd : FuncData}
theorem cal_end (F : C8.Def K mg "_law_end" st_law_end f fd) (b : Binds K fd ["pen", "buffers"] []) (B : BN2 mg) (Cd : Cal P w K mg base 2 "_law_draw" spDraw []) (Cf : Cal P w K mg base 5 "_law_fill" spFill []) : Cal P w K mg base 6 "_law_end" spEnd [] := by
  refine cal0 F b .nil sc_end (fun vs H Q E h => ?_) (fun cdv A outer s H vs Q E hr h => ?_)
  · obtain ⟨p, c, n, rfl, _⟩ := h
    rfl
  · obtain ⟨p, c, n, rfl, hP, hn, k⟩ := h
    refine ⟨_, pss_one (ps_ret (pe_ifExp (pt_cmpR op_gt (pe_c Cd hr (by decide) (by rfl) (pa_cons (pv 0) (pa_cons pe_int pa_nil))) pe_int (nomark _))
      (pe_c Cf hr (by decide) (by rfl) (pa_cons (pv 0) (pa_cons (pe_listRg rfl (by rfl) B.list (prg_1 (by rfl) B.range (pv 1))) (pa_cons (pe_op op_sub (pv 1) pe_int) pa_nil)))) pe_non)), ?_⟩
    refine ⟨_, rfl, p, c, 5, rfl, hP, by decide, by decide, fun d H1 d0 d1 k1 => ⟨_, _, rfl, rfl, _, rfl, ?_⟩⟩
    refine ite2 (fun _ => ?_) (fun _ => ?_)
    · refine ⟨_, rfl, _, rfl, n, rfl, RgOk.of_le (by decide) (by omega) (by decide) (by omega), fun l hl => ⟨_, rfl, _, _, rfl, rfl, ?_⟩⟩
      have k2 := k1.new (o := .lst (rgV 0 (n : Int))) hl
      refine ⟨p, c, l, List.range n, _, rfl, k2.pen, k1.pen.ne hl, k1.pen.neC hl, by rw [upd_same, rg_eq], by rw [List.length_range]; omega, fun r t ls' H2 kk t0 t1 _ pm l1 l2 l3 => ?_⟩
      have k3 : Kp p c H H2 := k2.thru kk (k1.free hl)
      refine k (some r) _ H2 k3 (tp_rc t1) fun q e => ?_
      cases e
      have nd := (List.nodup_append.mp (pm.nodup_iff.mpr List.nodup_range)).1
      exact ⟨⟨nd, fun i hi => List.mem_range.mp (pm.mem_iff.mp (List.mem_append_left _ hi)), ROk.e ⟨l1, l2, l3⟩⟩, l1, l2, l3⟩
    · exact k none _ H1 k1 .non fun q e => by cases e
theorem cal_fills (F : C8.Def K mg "_law_fills" st_law_fills f fd) (b : Binds K fd ["pen", "buffers"] []) (B : BN2 mg) (Cd : Cal P w K mg base 2 "_law_draw" spDraw []) (Cf : Cal P w K mg base 5 "_law_fill" spFill []) : Cal P w K mg base 6 "_law_fills" spFills [] := by
  refine cal0 F b .nil sc_fills (fun vs H Q E h => ?_) (fun cdv A outer s H vs Q E hr h => ?_)
  · obtain ⟨p, c, n, rfl, _⟩ := h
    rfl
  · obtain ⟨p, c, n, rfl, hP, hn, k⟩ := h
    refine ⟨_, pss_cons (ps_set (i := 2) sc_fills.nd rfl (Or.inl rfl) (pe_listRg rfl (by rfl) B.list (prg_1 (by rfl) B.range (pv 1))))
      (pss_cut (ps_set (i := 3) sc_fills.nd rfl (Or.inl rfl) (pe_ifExp (pt_cmpR op_eq (pe_c Cd hr (by decide) (by rfl) (pa_cons (pv 0) (pa_cons pe_int pa_nil))) pe_int (nomark _)) (pe_revL (pv 2)) (pe_callTy call_list_of (by rfl) B.list (by decide +kernel) (pa_cons (pv 2) pa_nil))))
      (pss_cons (ps_set (i := 4) sc_fills.nd rfl (Or.inr rfl) pe_dnewK)
      (pss_cons (ps_for PassesOwn.never rfl (pi_list (pv 3)) (pg_name (i := 5) sc_fills.nd rfl (Or.inl rfl))
        (pss_one (ps_dput (hu_of hr) (pv 4) (pv 5) (pe_c Cf hr (by decide) (by rfl) (pa_cons (pv 0) (pa_cons (pv 2) (pa_cons (pv 5) pa_nil)))) rfl)))
      (pss_one (ps_ret (pe_callTy call_tuple_of (by rfl) B.tuple (by decide +kernel) (pa_cons (pe_lc (own := [("buffer", 5)]) (g := gName 5) (tt := tYes) (by rfl) sc_fills.nd (pi_range1 rfl B.range (pa_cons (pv 1) pa_nil))
        (blkOk_by (own := [("buffer", 5)]) (N := ["pen", "buffers", "left", "order", "found", "buffer"]) (sc := fnScope st_law_fills) (by decide +kernel)) (fun _ _ _ _ _ => pg_name (i := 5) sc_fills.nd rfl (Or.inl rfl)) (fun _ _ _ _ _ => pts_nil)
        (fun _ _ _ _ _ => pe_dget (hu_of hr) (pv 4) (pv 5) (fun _ _ => rfl))) pa_nil))))))), ?_⟩
    refine ⟨_, rfl, n, rfl, RgOk.of_le (by decide) (by omega) (by decide) (by omega), fun l hl => ?_⟩
    have kl : Kp p c H (upd H l (.lst (rgV 0 (n : Int)))) := (Kp.rfl' hP).new hl
    have nlp : l ≠ p := hP.ne hl
    have nlc : l ≠ c := hP.neC hl
    have hL : upd H l (.lst (rgV 0 (n : Int))) l = some (.lst ((iN (List.range n)).map V.int)) := by rw [upd_same, rg_eq]
    -- the order: the buffers, in one order
    refine ⟨fun σ H' => ∃ (o : Addr) (os : List Nat), σ = [some (.ref p), some (.int n), some (.ref l), some (.ref o), none, none] ∧ os.Perm (List.range n) ∧ Kp p c H H' ∧ H o = none ∧ o ≠ l ∧ H' o = some (.lst ((iN os).map V.int)) ∧ H' l = some (.lst ((iN (List.range n)).map V.int)), ?_, ?_⟩
    · refine ⟨_, rfl, p, c, 4, rfl, kl.pen, by decide, by decide, fun d H1 d0 d1 k1 => ⟨rfl, _, rfl, ?_⟩⟩
      have kA := kl.trans k1
      have hL1 := k1.but _ _ nlp hL
      refine ite2 (fun _ => ?_) (fun _ => ?_)
      · refine ⟨_, rfl, l, _, rfl, SqL.of hL1, fun o ho => ⟨o, (List.range n).reverse, rfl, List.reverse_perm _, kA.new ho, kA.free ho, (ne_of_none hL1 ho).symm, ?_, ?_⟩⟩
        · rw [upd_same]
          unfold iN
          rw [List.map_reverse, List.map_reverse]
        · rw [upd_ne (ne_of_none hL1 ho)]
          exact hL1
      · refine ⟨_, rfl, l, _, rfl, .inl (SqL.of hL1), fun o ho => ⟨o, List.range n, rfl, List.Perm.refl _, kA.new ho, kA.free ho, (ne_of_none hL1 ho).symm, upd_same, ?_⟩⟩
        rw [upd_ne (ne_of_none hL1 ho)]
        exact hL1
    · rintro σ H1 ⟨o, os, rfl, hos, k1, o0, nol, hO, hL1⟩
      intro D hD
      have nop : o ≠ p := hP.ne o0
      have hDl : D ≠ l := (ne_of_none hL1 hD).symm
      have hDo : D ≠ o := (ne_of_none hO hD).symm
      have D0 : H D = none := k1.free hD
      have nDp : D ≠ p := hP.ne D0
      refine ⟨_, rfl, o, rfl, ⟨_, (show SqL K (upd H1 D (.dK [])) o ((iN os).map V.int) from SqL.of (by rw [upd_ne hDo.symm]; exact hO))⟩, for_list (K := K) (a := o) (xs := (iN os).map V.int)
        (fun i σ H' => (∃ v : Option V, σ = [some (.ref p), some (.int n), some (.ref l), some (.ref o), some (.ref D), v]) ∧ Kp p c H H' ∧ H' o = some (.lst ((iN os).map V.int)) ∧ ∃ (xs : List Ent) (ls' : List Nat), xs.map (·.1) = os.take i ∧ H' D = some (.dK (kvsE xs)) ∧ H' l = some (.lst ((iN ls').map V.int)) ∧
          (xs.flatMap (fun x => bufs x.2.2) ++ ls').Perm (List.range n) ∧ ∀ x ∈ xs, H' x.2.1 = some (.tup (x.2.2.map Pt.v)) ∧ ROk x.2.2)
        ⟨⟨none, rfl⟩, k1.new hD, by rw [upd_ne hDo.symm]; exact hO, [], List.range n, rfl, upd_same, by rw [upd_ne hDl.symm]; exact hL1, List.Perm.refl _, fun x hx => by cases hx⟩ (fun i σ H' _ h => SqL.of h.2.2.1) ?_ ?_⟩
      · rintro i y σ H2 hi ⟨⟨v, rfl⟩, k2, hO2, xs, ls', ex, hD2, hL2, hp, hx⟩
        obtain ⟨z, hz, rfl⟩ : ∃ z, os[i]? = some z ∧ y = V.int (z : Nat) := by
          unfold iN at hi
          rw [List.map_map, List.getElem?_map] at hi
          cases e : os[i]? with
          | none =>
            rw [e] at hi
            cases hi
          | some u =>
            rw [e] at hi
            exact ⟨u, rfl, (Option.some.inj hi).symm⟩
        have hln : ls'.length ≤ 100 := by
          have := hp.length_eq
          rw [List.length_append, List.length_range] at this
          omega
        refine ⟨_, rfl, _, rfl, _, rfl, p, c, l, ls', _, rfl, k2.pen, nlp, nlc, hL2, hln, fun r t ls2 H3 k3 t0 t1 t2 pm l1 l2 l3 => ?_⟩
        have hD3 : H3 D = some (.dK (kvsE xs)) := k3.unhide nDp hDl hD2
        have hO3 := k3.unhide nop nol hO2
        have zn : z ∉ xs.map (·.1) := by
          rw [ex]
          intro zm
          have nd : os.Nodup := hos.nodup_iff.mpr List.nodup_range
          obtain ⟨j, hj⟩ := List.mem_iff_getElem?.mp zm
          have hji : j < i := by
            have := (List.getElem?_eq_some_iff.mp hj).1
            rw [List.length_take] at this
            omega
          rw [List.getElem?_take_of_lt hji] at hj
          have := nd_ix nd hj hz
          omega
        have hle : (kvsE xs).length ≤ 50 := by
          unfold kvsE
          rw [List.length_map]
          have e1 := congrArg List.length ex
          have e2 := hos.length_eq
          rw [List.length_map, List.length_take] at e1
          rw [List.length_range] at e2
          omega
        have putD : DPut H3 D (.int (z : Nat)) (.ref t) (upd H3 D (.dK (kvsE xs ++ [(Sum.inl (z : Int), .ref t)]))) := by
          have q := DPut.k (k := Sum.inl (z : Int)) (v := V.ref t) hD3 (Nat.lt_of_le_of_lt hle (by decide))
          rw [put_new xs z _ zn] at q
          exact q
        have hDt : D ≠ t := by
          have e : H2 D = some (.dK (kvsE xs)) := hD2
          exact ne_of_none e t0
        refine ⟨_, rfl, _, rfl, D, _, rfl, putD, ⟨_, rfl⟩, ?_, ?_, xs ++ [(z, t, r)], ls2, ?_, ?_, ?_, ?_, ?_⟩
        · exact (k2.thru k3 hl).put hP D0
        · rw [upd_ne hDo.symm]
          exact hO3
        · rw [List.map_append, ex, List.take_add_one, hz]
          rfl
        · rw [upd_same]
          unfold kvsE
          rw [List.map_append]
          rfl
        · rw [upd_ne hDl.symm]
          exact t2
        · rw [List.flatMap_append, List.flatMap_cons, List.flatMap_nil, List.append_nil, List.append_assoc]
          exact (pm.append_left _).trans hp
        · intro x hm
          rcases List.mem_append.mp hm with hm | hm
          · obtain ⟨h1, h2⟩ := hx x hm
            refine ⟨?_, h2⟩
            rw [upd_ne (ne_of h1 hD2 (by intro q; cases q))]
            exact k3.unhide (by
              obtain ⟨ns, i', j', g1, _⟩ := k2.pen
              exact ne_of h1 g1 (by intro q; cases q)) (ne_of h1 hL2 (by intro q; cases q)) h1
          · obtain rfl := List.mem_singleton.mp hm
            refine ⟨?_, l1, l2, l3⟩
            rw [upd_ne hDt.symm]
            exact t1
      · rintro σ H2 ⟨⟨v, rfl⟩, k2, hO2, xs, ls', ex, hD2, hL2, hp, hx⟩
        have eos : ((iN os).map V.int).length = os.length := by
          unfold iN
          rw [List.length_map, List.length_map]
        rw [eos, List.take_length] at ex
        have fok := fok_of ex hos hp fun x hm => (hx x hm).2
        refine ⟨_, rfl, n, rfl, by omega, by omega, fun E hE => ?_⟩
        refine lc_range (lo := 0) (n := (n : Int).toNat) (fun i H' => Same H2 H' ∧ H' E = some (.lst ((List.range i).map fun j => V.ref (pickE xs j).1))) ⟨same_new hE, upd_same⟩ ?_ ?_
        · rintro i H3 hi ⟨s3, hE3⟩
          have him : i ∈ xs.map (·.1) := by
            rw [ex]
            exact hos.mem_iff.mpr (List.mem_range.mpr (by omega))
          refine ⟨rfl, ?_⟩
          refine ⟨_, rfl, _, rfl, D, V.ref (pickE xs i).1, rfl, ?_, ?_⟩
          · have q := DGet.k (k := Sum.inl (i : Int)) (s3 _ _ hD2)
            rw [(pick_val xs i him).1] at q
            have e : V.int (0 + (i : Int)) = kV (Sum.inl (i : Int)) := by
              rw [Int.zero_add]
              rfl
            rw [e]
            exact q
          · refine ⟨_, hE3, ?_, ?_, ?_⟩
            · rw [List.length_map, List.length_range]
              exact Nat.lt_of_lt_of_le (show i < 100 by omega) (by decide)
            · intro b' o' e'
              rw [upd_ne (ne_of_none e' hE)]
              exact s3 _ _ e'
            · rw [upd_same, List.range_succ, List.map_append]
              rfl
        · rintro H3 ⟨s3, hE3⟩
          refine ⟨E, _, rfl, .inl ⟨SqL.of hE3, fun t ht => ?_⟩⟩
          refine k _ t _ ((k2.same s3).new ht) (.tup upd_same ?_) fok
          rw [Int.toNat_natCast, List.map_map]
          refine TpAll.map fun i hi => ?_
          have him : i ∈ xs.map (·.1) := by
            rw [ex]
            exact hos.mem_iff.mpr hi
          have h1 := (hx _ (pick_val xs i him).2).1
          exact tp_rc (by rw [upd_ne (ne_of_none (s3 _ _ h1) ht)]; exact s3 _ _ h1)
end

/-! ### lists of data that are being made -/
/-- a list of data that is being made -/
def LAt (H : Hp) (R : Addr) (ds : List PyData) : Prop := ∃ vs, H R = some (.lst vs) ∧ TpAll H vs ds
theorem LAt.kp {p c R : Addr} {H1 H2 : Hp} {ds : List PyData} (h : LAt H1 R ds) (n : R ≠ p) (hP : Pen H1 p c) (k : Kp p c H1 H2) : LAt H2 R ds := by
  obtain ⟨vs, h1, h2⟩ := h
  exact ⟨vs, k.but _ _ n h1, h2.mono (k.tk hP)⟩
theorem LAt.same {R : Addr} {H1 H2 : Hp} {ds : List PyData} (h : LAt H1 R ds) (s : Same H1 H2) : LAt H2 R ds := by
  obtain ⟨vs, h1, h2⟩ := h
  exact ⟨vs, s _ _ h1, h2.mono (Same.tk s)⟩
theorem LAt.put {R q : Addr} {H1 : Hp} {ys : List V} {o : HO} {ds : List PyData} (h : LAt H1 R ds) (hq : H1 q = some (.lst ys)) (n : R ≠ q) : LAt (upd H1 q o) R ds := by
  obtain ⟨vs, h1, h2⟩ := h
  exact ⟨vs, by rw [upd_ne n]; exact h1, h2.mono (tk_lst hq)⟩
theorem LAt.push {R : Addr} {H1 : Hp} {vs : List V} {x : V} {d : PyData} {ds : List PyData} (hv : H1 R = some (.lst vs)) (ha : TpAll H1 vs ds) (hx : Tp H1 x d) : LAt (upd H1 R (.lst (vs ++ [x]))) R (ds ++ [d]) :=
  ⟨vs ++ [x], upd_same, (ha.mono (tk_lst hv)).app (.cons (hx.mono (tk_lst hv)) .nil)⟩

/-! ### writers -/
structure Wr where
  begins : List Str
  rules : List (List (Option (Nat × List Rc)))
  ends : List (Option Rc)
def entD : Option (Nat × List Rc) → PyData
  | none => .none
  | some (t, fs) => .tuple [.int t, fillsD fs]
def rowD (row : List (Option (Nat × List Rc))) : PyData := .tuple (row.map entD)
def Wr.d (W : Wr) : PyData := .tuple [.tuple (W.begins.map .str), .tuple (W.rules.map rowD), .tuple (W.ends.map endD)]
/-- an entry of a writer with S states and B buffers -/
def EntOk (S B : Nat) (e : Option (Nat × List Rc)) : Prop := ∀ t fs, e = some (t, fs) → t < S ∧ FOk B fs
structure WOk (k S B : Nat) (W : Wr) : Prop where
  b1 : W.begins.length = B
  b2 : ∀ z ∈ W.begins, Tx 2 z
  r1 : W.rules.length = S
  r2 : ∀ row ∈ W.rules, row.length = k ∧ ∀ e ∈ row, EntOk S B e
  e1 : W.ends.length = S
  e2 : ∀ e ∈ W.ends, ∀ q, e = some q → EOk B q
/-- the ends are as they were drawn -/
def Tight (W : Wr) : Prop := ∀ e ∈ W.ends, ∀ q, e = some q → ROk q
def spWriterT : Sp := fun vs H Q _ => ∃ (p c : Addr) (k sm bm : Nat), vs = [.ref p, .int k, .int sm, .int bm] ∧ Pen H p c ∧ k ≤ 40 ∧ 0 < sm ∧ sm ≤ 40 ∧ 0 < bm ∧ bm ≤ 40 ∧
  ∀ (W : Wr) (S B : Nat) (t : Addr) H', 1 ≤ S → S ≤ sm → 1 ≤ B → B ≤ bm → WOk k S B W → Tight W → Kp p c H H' → Tp H' (.ref t) W.d → Q (.ref t) H'
def spWriter : Sp := fun vs H Q _ => ∃ (p c : Addr) (k sm bm : Nat), vs = [.ref p, .int k, .int sm, .int bm] ∧ Pen H p c ∧ k ≤ 40 ∧ 0 < sm ∧ sm ≤ 40 ∧ 0 < bm ∧ bm ≤ 40 ∧
  ∀ (W : Wr) (S B : Nat) (t : Addr) H', 1 ≤ S → S ≤ sm → 1 ≤ B → B ≤ bm → WOk k S B W → Kp p c H H' → Tp H' (.ref t) W.d → Q (.ref t) H'
def nWriter : List Str := ["pen", "count", "states", "buffers", "begins", "rules", "state", "row", "kind", "target", "fills", "ends", "lap"]
theorem sc_writer : FnScope nWriter ["pen", "count", "states", "buffers"] (fnScope st_law_writer) := fnScope_by (by decide +kernel)
section
variable {P : Program} {w : World} {K : PySem.W.Frag} {mg : Str → Option Value} {base : Heap} {f : Addr} {fd : FuncData}
theorem cal_writerT (F : C8.Def K mg "_law_writer" st_law_writer f fd) (b : Binds K fd ["pen", "count", "states", "buffers"] []) (B : BN2 mg) (Cd : Cal P w K mg base 2 "_law_draw" spDraw []) (Cp : Cal P w K mg base 4 "_law_piece" spPiece [])
    (Cf : Cal P w K mg base 6 "_law_fills" spFills []) (Ce : Cal P w K mg base 6 "_law_end" spEnd []) : Cal P w K mg base 7 "_law_writer" spWriterT [] := by
  refine cal0 F b .nil sc_writer (fun vs H Q E h => ?_) (fun cdv A outer s H vs Q E hr h => ?_)
  · obtain ⟨p, c, k, sm, bm, rfl, _⟩ := h
    rfl
  · obtain ⟨p, c, kk, sm, bm, rfl, hP, hk, s0, s1, b0, b1, k⟩ := h
    refine ⟨_, pss_cons (ps_asg (pe_tup (pa_cons (pe_op op_add pe_int (pe_c Cd hr (by decide) (by rfl) (pa_cons (pv 0) (pa_cons (pv 2) pa_nil)))) (pa_cons (pe_op op_add pe_int (pe_c Cd hr (by decide) (by rfl) (pa_cons (pv 0) (pa_cons (pv 3) pa_nil)))) pa_nil)))
        (pg_tup rfl (pgs_cons (pg_name (i := 2) sc_writer.nd rfl (Or.inl rfl)) (pgs_cons (pg_name (i := 3) sc_writer.nd rfl (Or.inr rfl)) pgs_nil))))
      (pss_cons (ps_set (i := 4) sc_writer.nd rfl (Or.inl rfl) (pe_callTy call_tuple_of (by rfl) B.tuple (by decide +kernel) (pa_cons (pe_lc (own := [("lap", 12)]) (g := gName 12) (tt := tYes) (by rfl) sc_writer.nd (pi_range1 rfl B.range (pa_cons (pv 3) pa_nil))
          (blkOk_by (own := [("lap", 12)]) (N := nWriter) (sc := fnScope st_law_writer) (by decide +kernel)) (fun _ _ _ _ _ => pg_name (i := 12) sc_writer.nd rfl (Or.inl rfl)) (fun _ _ _ _ _ => pts_nil)
          (fun _ _ _ _ _ => pe_ifExp (pt_cmpR op_eq (pe_c Cd hr (by decide) (by rfl) (pa_cons (pv 0) (pa_cons pe_int pa_nil))) pe_int (nomark _)) (pe_c Cp hr (by decide) (by rfl) (pa_cons (pv 0) (pa_cons pe_int pa_nil))) pe_str)) pa_nil)))
      (pss_cons (ps_set (i := 5) sc_writer.nd rfl (Or.inl rfl) (pe_lst pa_nil))
      (pss_cons (ps_for PassesOwn.never rfl (pi_range1 rfl B.range (pa_cons (pv 2) pa_nil)) (pg_name (i := 6) sc_writer.nd rfl (Or.inl rfl))
        (pss_cons (ps_set (i := 7) sc_writer.nd rfl (Or.inl rfl) (pe_lst pa_nil))
        (pss_cons (ps_for PassesOwn.never rfl (pi_range1 rfl B.range (pa_cons (pv 1) pa_nil)) (pg_name (i := 8) sc_writer.nd rfl (Or.inl rfl))
          (pss_cons (ps_par (i := 9) (j := 10) rfl sc_writer.nd rfl rfl (by decide) rfl rfl (pa_cons (pe_c Cd hr (by decide) (by rfl) (pa_cons (pv 0) (pa_cons (pv 2) pa_nil))) (pa_cons (pe_c Cf hr (by decide) (by rfl) (pa_cons (pv 0) (pa_cons (pv 3) pa_nil))) pa_nil)) (by rfl))
          (pss_one (ps_expr (pe_bm PySem.F.plainAttrs_list PySem.F.slot_list_append PySem.F.type_list_append mt_append (pv 7)
            (pa_cons (pe_ifExp (pt_cmpR op_gt (pe_c Cd hr (by decide) (by rfl) (pa_cons (pv 0) (pa_cons pe_int pa_nil))) pe_int (nomark _)) (pe_tup (pa_cons (pv 9) (pa_cons (pv 10) pa_nil))) pe_non) pa_nil))))))
        (pss_one (ps_expr (pe_bm PySem.F.plainAttrs_list PySem.F.slot_list_append PySem.F.type_list_append mt_append (pv 5) (pa_cons (pe_callTy call_tuple_of (by rfl) B.tuple (by decide +kernel) (pa_cons (pv 7) pa_nil)) pa_nil)))))))
      (pss_cons (ps_setLc (i := 11) (own := [("state", 6)]) (g := gName 6) (tt := tYes) (by rfl) sc_writer.nd rfl rfl (sw_true rfl rfl rfl (by decide +kernel)) (pi_range1 rfl B.range (pa_cons (pv 2) pa_nil))
          (blkOk_by (own := [("state", 6)]) (N := nWriter) (sc := fnScope st_law_writer) (by decide +kernel)) (fun _ _ _ _ _ => pg_name (i := 6) sc_writer.nd rfl (Or.inl rfl)) (fun _ _ _ _ _ => pts_nil)
          (fun _ _ _ _ _ => pe_c Ce hr (by decide) (by rfl) (pa_cons (pv 0) (pa_cons (pv 3) pa_nil))))
      (pss_one (ps_ret (pe_tup (pa_cons (pv 4) (pa_cons (pe_callTy call_tuple_of (by rfl) B.tuple (by decide +kernel) (pa_cons (pv 5) pa_nil)) (pa_cons (pe_callTy call_tuple_of (by rfl) B.tuple (by decide +kernel) (pa_cons (pv 11) pa_nil)) pa_nil)))))))))), ?_⟩
    refine ⟨_, rfl, _, rfl, p, c, sm, rfl, hP, by omega, log_small (by omega) (by omega), fun d H1 d0 d1 k1 => ⟨_, _, rfl, rfl, _, rfl, _, rfl, p, c, bm, rfl, k1.pen, by omega, log_small (by omega) (by omega), fun g H2 g0 g1 k2 => ⟨_, _, rfl, rfl, ?_⟩⟩⟩
    obtain ⟨S, hS⟩ : ∃ S : Nat, 1 + d = (S : Int) := ⟨(1 + d).toNat, by omega⟩
    obtain ⟨Bf, hB⟩ : ∃ Bf : Nat, 1 + g = (Bf : Int) := ⟨(1 + g).toNat, by omega⟩
    have kA := k1.trans k2
    refine ⟨(by show 2 ≤ sizeLine; decide), fun t0 ht0 => ⟨t0, _, rfl, SqT.of upd_same, rfl, .int (S : Int), [.int (Bf : Int)], (by show [V.int (1 + d), V.int (1 + g)] = [V.int (S : Int), V.int (Bf : Int)]; rw [hS, hB]), .int (Bf : Int), [], rfl, rfl, ?_⟩⟩
    have kB := kA.new (o := .tup [.int (1 + d), .int (1 + g)]) ht0
    clear ht0
    generalize upd H2 t0 (.tup [.int (1 + d), .int (1 + g)]) = H3 at kB ⊢
    -- the begins
    refine ⟨_, rfl, Bf, rfl, by omega, by omega, fun D hD => ?_⟩
    refine lc_range (lo := 0) (n := (Bf : Int).toNat) (fun i H' => Kp p c H H' ∧ H D = none ∧ ∃ zs : List Str, H' D = some (.lst (zs.map V.str)) ∧ zs.length = i ∧ ∀ z ∈ zs, Tx 2 z) ⟨kB.new hD, kB.free hD, [], upd_same, rfl, fun z hz => by cases hz⟩ ?_ ?_
    · rintro i H4 hi ⟨k4, D0, zs, hD4, hl, hz⟩
      refine ⟨rfl, ?_⟩
      have nDp := hP.ne D0
      have done : ∀ (z : Str) (H5 : Hp), Tx 2 z → Kp p c H4 H5 → ∃ acc, H5 D = some (.lst acc) ∧ acc.length < sizeLine ∧ Kp p c H (upd H5 D (.lst (acc ++ [.str z]))) ∧ H D = none ∧ ∃ zs : List Str, upd H5 D (.lst (acc ++ [.str z])) D = some (.lst (zs.map V.str)) ∧ zs.length = i + 1 ∧ ∀ z ∈ zs, Tx 2 z := by
        intro z H5 hz5 k5
        refine ⟨_, k5.but _ _ nDp hD4, ?_, (k4.trans k5).put hP D0, D0, zs ++ [z], ?_, ?_, ?_⟩
        · rw [List.length_map]
          exact Nat.lt_of_lt_of_le (show zs.length < 1000 by omega) (by decide)
        · rw [upd_same, List.map_append]
          rfl
        · rw [List.length_append, hl]
          rfl
        · intro y hy
          rcases List.mem_append.mp hy with hy | hy
          · exact hz y hy
          · obtain rfl := List.mem_singleton.mp hy
            exact hz5
      refine ⟨_, rfl, p, c, 4, rfl, k4.pen, by decide, by decide, fun d' H5 d0' d1' k5 => ⟨rfl, _, rfl, ?_⟩⟩
      refine ite2 (fun _ => ?_) (fun _ => ?_)
      · exact ⟨_, rfl, p, c, 2, rfl, k5.pen, by decide, by decide, fun z H6 _ hz6 k6 => done z H6 hz6 (k5.trans k6)⟩
      · exact done "" H5 ⟨by decide, fun c hc => by cases hc⟩ k5
    rintro H4 ⟨k4, D0, zs, hD4, hzl, hz⟩
    refine ⟨D, _, rfl, .inl ⟨SqL.of hD4, fun tb htb => ?_⟩⟩
    have tpb : Tp (upd H4 tb (.tup (zs.map V.str))) (.ref tb) (.tuple (zs.map .str)) := .tup upd_same (TpAll.map fun z _ => .str z)
    have k5 := k4.new (o := .tup (zs.map V.str)) htb
    clear htb hD4
    generalize upd H4 tb (.tup (zs.map V.str)) = H5 at tpb k5 ⊢
    refine ⟨Nat.zero_le _, fun R hR => ?_⟩
    have R0 : H R = none := k5.free hR
    have nRp := hP.ne R0
    -- the rows
    refine ⟨_, rfl, S, rfl, by omega, by omega, for_range (n := (S : Int).toNat) (fun i σ H' => (∃ v6 v7 v8 v9 v10 : Option V, σ = [some (.ref p), some (.int kk), some (.int S), some (.int Bf), some (.ref tb), some (.ref R), v6, v7, v8, v9, v10, none, none]) ∧
      Kp p c H H' ∧ Tp H' (.ref tb) (.tuple (zs.map .str)) ∧ ∃ rows : List (List (Option (Nat × List Rc))), LAt H' R (rows.map rowD) ∧ rows.length = i ∧ ∀ row ∈ rows, row.length = kk ∧ ∀ e ∈ row, EntOk S Bf e)
      ⟨⟨_, _, _, _, _, rfl⟩, k5.new hR, tpb.mono (tk_new hR), [], ⟨[], upd_same, .nil⟩, rfl, fun row hrow => by cases hrow⟩ ?_ ?_⟩
    · rintro i σ H6 hi ⟨⟨v6, v7, v8, v9, v10, rfl⟩, k6, tb6, rows, hR6, hrl, hrow⟩
      refine ⟨Nat.zero_le _, fun w' hw => ?_⟩
      have w0 : H w' = none := k6.free hw
      have nwp := hP.ne w0
      have nRw : R ≠ w' := by
        obtain ⟨vs, h1, _⟩ := hR6
        exact ne_of_none h1 hw
      refine ⟨_, rfl, kk, rfl, by omega, by omega, for_range (n := (kk : Int).toNat) (fun j σ H' => (∃ v8 v9 v10 : Option V, σ = [some (.ref p), some (.int kk), some (.int S), some (.int Bf), some (.ref tb), some (.ref R), some (.int (0 + (i : Int))), some (.ref w'), v8, v9, v10, none, none]) ∧
        Kp p c H H' ∧ Tp H' (.ref tb) (.tuple (zs.map .str)) ∧ LAt H' R (rows.map rowD) ∧ ∃ es : List (Option (Nat × List Rc)), LAt H' w' (es.map entD) ∧ es.length = j ∧ ∀ e ∈ es, EntOk S Bf e)
        ⟨⟨_, _, _, rfl⟩, k6.new hw, tb6.mono (tk_new hw), hR6.same (same_new hw), [], ⟨[], upd_same, .nil⟩, rfl, fun e he => by cases he⟩ ?_ ?_⟩
      · rintro j σ H7 hj ⟨⟨v8, v9, v10, rfl⟩, k7, tb7, hR7, es, hw7, hel, hes⟩
        refine ⟨_, rfl, _, rfl, p, c, S, rfl, k7.pen, by omega, log_small (by omega) (by omega), fun tg H8 t0 t1 k8 => ?_⟩
        refine ⟨_, rfl, _, rfl, p, c, Bf, rfl, k8.pen, by omega, fun fs ft H9 k9 tf hf => ⟨_, _, rfl, ?_⟩⟩
        have k10 := k7.trans (k8.trans k9)
        have k79 := k8.trans k9
        have tb9 := tb7.mono (k79.tk k7.pen)
        have hR9 := hR7.kp nRp k7.pen k79
        obtain ⟨vs, hv9, ha9⟩ := hw7.kp nwp k7.pen k79
        refine ⟨_, rfl, .inl ⟨rfl, _, SqL.of hv9⟩, _, rfl, p, c, 6, rfl, k9.pen, by decide, by decide, fun d6 H10 _ _ k11 => ⟨_, _, rfl, rfl, _, rfl, ?_⟩⟩
        have tb10 := tb9.mono (k11.tk k9.pen)
        have hR10 := hR9.kp nRp k9.pen k11
        have hv10 := k11.but _ _ nwp hv9
        have ha10 := ha9.mono (k11.tk k9.pen)
        have tf10 := tf.mono (k11.tk k9.pen)
        have k12 := k10.trans k11
        have hlen : vs.length < sizeLine := by
          rw [ha10.len, List.length_map]
          exact Nat.lt_of_lt_of_le (show es.length < 1000 by omega) (by decide)
        refine ite2 (fun _ => ?_) (fun _ => ?_)
        · refine ⟨_, rfl, _, rfl, (by show 2 ≤ sizeLine; decide), fun et het => ?_⟩
          have he10 : upd H10 et (.tup [.int tg, .ref ft]) w' = some (.lst vs) := by
            rw [upd_ne (ne_of_none hv10 het)]
            exact hv10
          refine ⟨w', vs, _, rfl, rfl, he10, hlen, ⟨_, _, _, rfl⟩, (k12.new het).put hP w0, (tb10.mono (tk_new het)).mono (tk_lst he10), (hR10.same (same_new het)).put he10 nRw, es ++ [some (tg.toNat, fs)], ?_, ?_, ?_⟩
          · rw [List.map_append]
            refine LAt.push he10 (ha10.mono (tk_new het)) (.tup upd_same (.cons ?_ (.cons (tf10.mono (tk_new het)) .nil)))
            rw [Int.toNat_of_nonneg t0]
            exact .int tg
          · rw [List.length_append, hel]
            rfl
          · intro e hm
            rcases List.mem_append.mp hm with hm | hm
            · exact hes e hm
            · obtain rfl := List.mem_singleton.mp hm
              intro t' fs' he
              cases he
              exact ⟨by omega, hf⟩
        · refine ⟨w', vs, _, rfl, rfl, hv10, hlen, ⟨_, _, _, rfl⟩, k12.put hP w0, tb10.mono (tk_lst hv10), hR10.put hv10 nRw, es ++ [none], ?_, ?_, ?_⟩
          · rw [List.map_append]
            exact LAt.push hv10 ha10 .non
          · rw [List.length_append, hel]
            rfl
          · intro e hm
            rcases List.mem_append.mp hm with hm | hm
            · exact hes e hm
            · obtain rfl := List.mem_singleton.mp hm
              intro t' fs' he
              cases he
      · rintro σ H7 ⟨⟨v8, v9, v10, rfl⟩, k7, tb7, hR7, es, hw7, hel, hes⟩
        obtain ⟨vs, hv7, ha7⟩ := hw7
        refine ⟨_, rfl, .inl ⟨rfl, _, SqL.of (show H7 R = _ from hR7.choose_spec.1)⟩, _, rfl, w', vs, rfl, .inl ⟨SqL.of hv7, fun rt hrt => ?_⟩⟩
        obtain ⟨us, hu7, hb7⟩ := hR7.same (same_new (o := .tup vs) hrt)
        refine ⟨R, us, _, rfl, rfl, hu7, ?_, ⟨_, _, _, _, _, rfl⟩, (k7.new hrt).put hP R0, (tb7.mono (tk_new hrt)).mono (tk_lst hu7), rows ++ [es], ?_, ?_, ?_⟩
        · rw [hb7.len, List.length_map]
          exact Nat.lt_of_lt_of_le (show rows.length < 1000 by omega) (by decide)
        · rw [List.map_append]
          exact LAt.push hu7 hb7 (.tup upd_same (ha7.mono (tk_new hrt)))
        · rw [List.length_append, hrl]
          rfl
        · intro row hm
          rcases List.mem_append.mp hm with hm | hm
          · exact hrow row hm
          · obtain rfl := List.mem_singleton.mp hm
            exact ⟨by omega, hes⟩
    rintro σ H6 ⟨⟨v6, v7, v8, v9, v10, rfl⟩, k6, tb6, rows, hR6, hrl, hrow⟩
    -- the ends
    refine ⟨_, rfl, S, rfl, by omega, by omega, fun D2 hD2 => ?_⟩
    have nRD : R ≠ D2 := by
      obtain ⟨vs, h1, _⟩ := hR6
      exact ne_of_none h1 hD2
    refine lc_range (lo := 0) (n := (S : Int).toNat) (fun i H' => Kp p c H H' ∧ H D2 = none ∧ Tp H' (.ref tb) (.tuple (zs.map .str)) ∧ LAt H' R (rows.map rowD) ∧ ∃ es : List (Option Rc), LAt H' D2 (es.map endD) ∧ es.length = i ∧ ∀ e ∈ es, ∀ q, e = some q → EOk Bf q ∧ ROk q)
      ⟨k6.new hD2, k6.free hD2, tb6.mono (tk_new hD2), hR6.same (same_new hD2), [], ⟨[], upd_same, .nil⟩, rfl, fun e he => by cases he⟩ ?_ ?_
    · rintro i H7 hi ⟨k7, D20, tb7, hR7, es, hw7, hel, hes⟩
      refine ⟨rfl, ?_⟩
      have nD2p := hP.ne D20
      refine ⟨_, rfl, _, rfl, p, c, Bf, rfl, k7.pen, by omega, fun r x H8 k8 tx hx => ?_⟩
      obtain ⟨vs, hv8, ha8⟩ := hw7.kp nD2p k7.pen k8
      refine ⟨vs, hv8, ?_, (k7.trans k8).put hP D20, D20, (tb7.mono (k8.tk k7.pen)).mono (tk_lst hv8), (hR7.kp nRp k7.pen k8).put hv8 nRD, es ++ [r], ?_, ?_, ?_⟩
      · rw [ha8.len, List.length_map]
        exact Nat.lt_of_lt_of_le (show es.length < 1000 by omega) (by decide)
      · rw [List.map_append]
        exact LAt.push hv8 ha8 tx
      · rw [List.length_append, hel]
        rfl
      · intro e hm
        rcases List.mem_append.mp hm with hm | hm
        · exact hes e hm
        · obtain rfl := List.mem_singleton.mp hm
          exact hx
    · rintro H7 ⟨k7, D20, tb7, hR7, es, hw7, hel, hes⟩
      obtain ⟨us, hu7, hb7⟩ := hR7
      obtain ⟨vs, hv7, ha7⟩ := hw7
      refine ⟨_, rfl, _, rfl, R, us, rfl, .inl ⟨SqL.of hu7, fun ra hra => ?_⟩⟩
      refine ⟨_, rfl, D2, vs, rfl, .inl ⟨SqL.of (by rw [upd_ne (ne_of_none hv7 hra)]; exact hv7), fun ea hea => ?_⟩⟩
      refine ⟨(by show 3 ≤ sizeLine; decide), fun t ht => ?_⟩
      have s1' : TK H7 (upd (upd (upd H7 ra (.tup us)) ea (.tup vs)) t (.tup [.ref tb, .ref ra, .ref ea])) := ((tk_new hra).trans (tk_new hea)).trans (tk_new ht)
      refine k ⟨zs, rows, es⟩ S Bf t _ (by omega) (by omega) (by omega) (by omega) ⟨by show zs.length = Bf; omega, hz, by show rows.length = S; omega, hrow, by show es.length = S; omega, fun e he q hq => (hes e he q hq).1⟩ (fun e he q hq => (hes e he q hq).2) (((k7.new hra).new hea).new ht) (.tup upd_same (.cons (tb7.mono s1') (.cons (.tup ?_ (hb7.mono s1')) (.cons (.tup ?_ (ha7.mono s1')) .nil))))
      · exact (tk_new ht) _ _ ((tk_new hea) _ _ upd_same)
      · exact (tk_new ht) _ _ upd_same
theorem cal_writer (F : C8.Def K mg "_law_writer" st_law_writer f fd) (b : Binds K fd ["pen", "count", "states", "buffers"] []) (B : BN2 mg) (Cd : Cal P w K mg base 2 "_law_draw" spDraw []) (Cp : Cal P w K mg base 4 "_law_piece" spPiece [])
    (Cf : Cal P w K mg base 6 "_law_fills" spFills []) (Ce : Cal P w K mg base 6 "_law_end" spEnd []) : Cal P w K mg base 7 "_law_writer" spWriter [] := by
  obtain ⟨g, gd, ps, ds, h1, h2⟩ := (cal_writerT F b B Cd Cp Cf Ce).ex
  refine ⟨g, gd, ps, ds, h1.imp fun vs H Q E q => ?_, h2⟩
  obtain ⟨p, c, k, sm, bm, e1, e2, e3, e4, e5, e6, e7, kk⟩ := q
  exact ⟨p, c, k, sm, bm, e1, e2, e3, e4, e5, e6, e7, fun W S B t H' a1 a2 a3 a4 a5 _ a6 a7 => kk W S B t H' a1 a2 a3 a4 a5 a6 a7⟩
end

/-! ### repr of data -/
theorem str_len (s : String) : (Str.ofString s).length = s.length := ofString_length s
/-- data that may be shown: no deeper than k, its weight at most n -/
structure Neat (k n : Nat) (d : PyData) : Prop where
  lay : d.canLay0 = true
  sh : d.showable = true
  shorts : d.intsShort 13 = true
  dep : d.depth ≤ k
  wt : d.weight ≤ n
structure NeatAll (k n : Nat) (ds : List PyData) : Prop where
  lay : PyData.canLayAll0 ds = true
  sh : PyData.showableAll ds = true
  shorts : PyData.intsShortAll 13 ds = true
  dep : PyData.depthAll ds ≤ k
  wt : PyData.weightAll ds ≤ n
theorem Neat.le {k n k' n' : Nat} {d : PyData} (h : Neat k n d) (hk : k ≤ k') (hn : n ≤ n') : Neat k' n' d := ⟨h.lay, h.sh, h.shorts, Nat.le_trans h.dep hk, Nat.le_trans h.wt hn⟩
theorem NeatAll.le {k n k' n' : Nat} {d : List PyData} (h : NeatAll k n d) (hk : k ≤ k') (hn : n ≤ n') : NeatAll k' n' d := ⟨h.lay, h.sh, h.shorts, Nat.le_trans h.dep hk, Nat.le_trans h.wt hn⟩
theorem neat_none : Neat 0 0 .none := ⟨by simp only [PyData.canLay0], by simp only [PyData.showable], by simp only [PyData.intsShort], by simp only [PyData.depth, Nat.le_refl], by simp only [PyData.weight, Nat.le_refl]⟩
theorem neat_bool (b : Bool) : Neat 0 0 (.bool b) := ⟨by simp only [PyData.canLay0], by simp only [PyData.showable], by simp only [PyData.intsShort], by simp only [PyData.depth, Nat.le_refl], by simp only [PyData.weight, Nat.le_refl]⟩
theorem neat_str {z : Str} (h : PyData.strOk z = true) : Neat 0 z.length (.str z) := ⟨by simp only [PyData.canLay0, h], by simp only [PyData.showable], by simp only [PyData.intsShort], by simp only [PyData.depth, Nat.le_refl], by simp only [PyData.weight]; exact Nat.le_refl _⟩
theorem neat_int {i : Int} (h : i.natAbs < 10 ^ 9) : Neat 0 40 (.int i) := by
  have h2 : i.natAbs.log2 < 30 := by
    by_cases h0 : i.natAbs = 0
    · rw [h0]
      decide
    · rw [Nat.log2_lt h0]
      omega
  refine ⟨by simp only [PyData.canLay0], ?_, ?_, by simp only [PyData.depth, Nat.le_refl], ?_⟩
  · simp only [PyData.showable, decide_eq_true_eq]
    omega
  · simp only [PyData.intsShort, PyData.shown, decide_eq_true_eq]
    have q := int_text_length_le10 (a := i) (k := 12) (by decide) (Nat.lt_trans h (by decide))
    exact decide_eq_true (Nat.le_trans (Nat.le_of_eq (str_len _)) q)
  · simp only [PyData.weight]
    split <;> omega
theorem neatAll_nil {k : Nat} : NeatAll k 0 [] := ⟨by simp only [PyData.canLayAll0], by simp only [PyData.showableAll], by simp only [PyData.intsShortAll], by simp only [PyData.depthAll, Nat.zero_le], by simp only [PyData.weightAll, Nat.le_refl]⟩
theorem NeatAll.cons {k a b : Nat} {d : PyData} {ds : List PyData} (h : Neat k a d) (hs : NeatAll k b ds) : NeatAll k (a + 1 + b) (d :: ds) :=
  ⟨by simp only [PyData.canLayAll0, h.lay, hs.lay, Bool.and_self], by simp only [PyData.showableAll, h.sh, hs.sh, Bool.and_self], by simp only [PyData.intsShortAll, h.shorts, hs.shorts, Bool.and_self],
    by simp only [PyData.depthAll]; exact Nat.max_le.mpr ⟨h.dep, hs.dep⟩, by simp only [PyData.weightAll]; exact Nat.add_le_add (Nat.add_le_add_right h.wt 1) hs.wt⟩
theorem NeatAll.tup {k n : Nat} {ds : List PyData} (h : NeatAll k n ds) : Neat (k + 1) n (.tuple ds) :=
  ⟨by simp only [PyData.canLay0, h.lay], by simp only [PyData.showable, h.sh], by simp only [PyData.intsShort, h.shorts], by simp only [PyData.depth]; exact Nat.succ_le_succ h.dep, by simp only [PyData.weight]; exact h.wt⟩
theorem NeatAll.lst {k n : Nat} {ds : List PyData} (h : NeatAll k n ds) : Neat (k + 1) n (.list ds) :=
  ⟨by simp only [PyData.canLay0, h.lay], by simp only [PyData.showable, h.sh], by simp only [PyData.intsShort, h.shorts], by simp only [PyData.depth]; exact Nat.succ_le_succ h.dep, by simp only [PyData.weight]; exact h.wt⟩
theorem neatAll_map {α : Type} {k a : Nat} {g : α → PyData} : ∀ {l : List α}, (∀ x ∈ l, Neat k a (g x)) → NeatAll k (l.length * (a + 1)) (l.map g)
  | [], _ => by
    rw [List.length_nil, Nat.zero_mul]
    exact neatAll_nil
  | x :: r, h => by
    have q := NeatAll.cons (h x List.mem_cons_self) (neatAll_map (l := r) fun y hy => h y (List.mem_cons_of_mem _ hy))
    rw [List.map_cons, List.length_cons, Nat.succ_mul]
    exact q.le (Nat.le_refl _) (by omega)
theorem Neat.fits {k n : Nat} {d : PyData} (h : Neat k n d) (hk : k ≤ 50) (hn : n ≤ 1000000) : d.shown.length ≤ sizeLine := by
  have e : (2 : Nat) ^ 20 = 1048576 := by decide
  have hl : PyData.layable0 d = true := by
    show (PyData.canLay0 d && decide (PyData.depth d ≤ 64) && decide (PyData.weight d ≤ 2 ^ 20)) = true
    have d1 := h.dep
    have d2 := h.wt
    rw [h.lay, decide_eq_true (show d.depth ≤ 64 by omega), decide_eq_true (show d.weight ≤ 2 ^ 20 by omega)]
    rfl
  exact Nat.le_trans (PyProof.Rows.shown_le13 hl h.shorts) (by decide)

/-- repr(x), x some data -/
def rRepr (K : PySem.W.Frag) : List V → Hp → VK → Prop := fun xs H Q => ∃ (x : V) (d : PyData) (k n : Nat), xs = [x] ∧ Dp K H x d ∧ Neat k n d ∧ k ≤ 50 ∧ n ≤ 1000000 ∧ Q (.str d.shown) H
theorem call_repr {X : Cx} (hg : X.A.guards = some []) (hu : X.A.units + 64 < cLine) : CallR X (.builtin "repr") (rRepr X.K) := by
  intro pins s σ H xs us Q I rel h
  obtain ⟨x, d, k, n, rfl, hd, hn, hk, hw, q⟩ := h
  obtain ⟨u, rfl, ru⟩ := vals1 rel
  obtain ⟨as, rr⟩ := Dp.reads I d x u hd ru
  have fits := hn.fits hk hw
  cases hd with
  | non =>
    cases ru
    exact PySem.P.repr_of_none ⟨.str _, H, I.tok _, ⟨_, rfl⟩, q⟩
  | bl b =>
    cases ru
    exact PySem.P.repr_of_bool ⟨.str _, H, I.tok _, ⟨_, rfl⟩, q⟩
  | int i =>
    obtain ⟨t, rfl⟩ := ru
    exact PySem.P.repr_of_int (by have := hn.sh; simpa only [PyData.showable, decide_eq_true_eq] using this) ⟨.str _, H, I.tok _, ⟨_, rfl⟩, q⟩
  | str z =>
    obtain ⟨t, rfl⟩ := ru
    exact PySem.P.repr_of_str ⟨.str _, H, I.tok _, ⟨_, rfl⟩, q⟩ fits
  | lst _ _ =>
    cases ru
    have dd := hn.dep
    exact repr_of_reads' rr hn.sh (PyData.noDict_hsm (PyData.hasDict_of_canLay _ hn.lay)) hg (by omega) (fun _ _ e => e) (fun h' u tk kk => ⟨.str _, H, I.kept kk, ⟨_, rfl⟩, q⟩) fits
  | tup _ _ =>
    cases ru
    have dd := hn.dep
    exact repr_of_reads' rr hn.sh (PyData.noDict_hsm (PyData.hasDict_of_canLay _ hn.lay)) hg (by omega) (fun _ _ e => e) (fun h' u tk kk => ⟨.str _, H, I.kept kk, ⟨_, rfl⟩, q⟩) fits

/-! ### a def that is called where no container is being shown -/
structure FnG (P : Program) (w : World) (K : PySem.W.Frag) (mg : Str → Option Value) (base : Heap) (k : Nat) (f : Addr) (fd : FuncData) (ps : List Str) (sp : Sp) : Prop where
  many : ∀ vs H Q E, sp vs H Q E → vs.length = ps.length
  goes : ∀ (A : Around) (outer : List Env) (s : Shared) (H : Hp) (args : Args) (us : List Value) (vs : List V) (Q : VK) (E : XK), A.guards = some [] → Room k A → Env0 P w K mg base A outer s H → BindsTo s fd args (ps.zip us) → Vals vs us →
    sp vs H Q E → codeAny (model P w) A (.call (.ref f) args) (CR CX0 outer P w H s Q E) s
section
open PySem.Spec PyProof.Rows
variable {P : Program} {w : World} {K : PySem.W.Frag} {mg : Str → Option Value} {base : Heap}
/-- by its body -/
theorem fnG_by {x qual : Str} {st : Stmt} {f : Addr} {fd : FuncData} {N ps : List Str} {k : Nat} {sp : Sp} (F : C8.Fun K x qual st f fd) (sc : FnScope N ps (fnScope st)) (many : ∀ vs H Q E, sp vs H Q E → vs.length = ps.length)
    (body : ∀ (cdv : Value) (A : Around) (outer : List Env) (s : Shared) (H : Hp) (vs : List V) (Q : VK) (E : XK), A.guards = some [] → Room k (A.deeper (envOfC qual (fnScope st) s.heap.objs.size f cdv)) → sp vs H Q E →
      ∃ t, PSs (cxOf CX0 P w K mg base N qual (fnScope st) f cdv A outer s H E).nox (fnBody st) t ∧ t { nx := fun _ H1 => Q .non H1, rt := Q } (start N vs) H) : FnG P w K mg base (k + 1) f fd ps sp := by
  obtain ⟨oc, od, dV, kV, doc, pm, an, cdv, ct, osl, rfl, atF, code⟩ := F.ex
  constructor
  · exact many
  · intro A outer s H args us vs Q E gu room e0 binds rel asked
    have n := many _ _ _ _ asked
    have kept : ∀ b o, base.get? b = some o → s.heap.get? b = some o := fun b o e => (e0.bs b o e).1
    have inK := e0.mod.kin.keeps kept
    have local' : ∀ y ∈ ps.zip us, (fnScope st).names.lookup y.1 = some .local ∨ ((fnScope st).names.lookup y.1 = some .cell ∧ ((cellsFrom (s.heap.objs.size + 1) (fnScope st).names []).lookup y.1).isSome = true) := by
      rintro ⟨nm, v⟩ mem
      exact (sc.par nm (List.of_mem_zip mem).1).imp id fun c => ⟨c, PySem.W.cellsFrom_some _ _ _ (.inl c)⟩
    refine codeAny_call_function room.depth (inK _ _ atF) rfl sc.co sc.gen rfl (PySem.W.codeRec_of inK code) (binds _ _ _ _ (wpAny_newFunctionEnv_cells sc.kind local' fun env eqE s1 made => ?_))
    cases eqE
    refine ⟨(e0.mod.nolimit.keeps kept).keeps made.toInCall.keep, codeAny_func ?_⟩
    obtain ⟨t, hold, ask⟩ := body cdv A outer s H vs Q E gu (room.deeper _) asked
    refine wpAny_mono (hold.nox.run [] s1 (start N vs) H _ (inv_start sc room.hd e0 n rel made) ask) (fun fl s2 got => ?_) fun _ _ z => z
    cases fl
    case ret u =>
      obtain ⟨v, _, H1, J, rv, q⟩ := got
      exact ⟨v, H1, J.os, J.bare, J.base, J.hok, rv, q⟩
    case next =>
      obtain ⟨_, H1, J, q⟩ := got
      exact ⟨V.non, H1, J.os, J.bare, J.base, J.hok, rfl, q⟩
    case brk =>
      obtain ⟨_, _, _, q⟩ := got
      exact q.elim
    case cont =>
      obtain ⟨_, _, _, q⟩ := got
      exact q.elim
end

/-! ### the end: the law's own def, called with the script -/
section
open PySem.Spec PyProof.Rows
theorem are_vals : ∀ {us : List Value} {ns : List Int}, IntsAre us ns → Vals (ns.map V.int) us
  | _, _, .nil => .nil
  | _, _, .cons _ t r => .cons ⟨t, rfl⟩ (are_vals r)
theorem lawG_end {P : Program} {w : World} {K : PySem.W.Frag} {mg mb : Str → Option Value} {k : Nat} {fa a : Addr} {fd : FuncData} {x : Str} {sp : Sp} {s₁ : Shared} {us : List Value} {ns : List Int}
    (inK : K.In s₁.heap) (gl : s₁.heap.Ns mainGlobals mg) (bl : s₁.heap.Ns builtinsNs mb) (boot : ∀ y : Str, y ≠ "__name__" → mb y = bootBuiltins y) (lim : s₁.heap.NoLimit) (gens : s₁.gens = #[])
    (at_a : s₁.heap.get? a = some { cls := .type "list", data := .seq us.toArray }) (are : IntsAre us ns) (few : ns.length ≤ sizeLine) (room : Room k callerA)
    (F : ∀ base : Heap, K.In base → base.Ns mainGlobals mg → FnG P w K mg base k fa fd [x] sp) (binds : ∀ (s : Shared) (u : Value), BindsTo s fd ⟨[u], []⟩ [(x, u)])
    (asked : ∀ H : Hp, SqL K H a (ns.map V.int) → sp [.ref a] H (fun v _ => v = .bl true) fun _ _ _ => False) :
    codeAny (model P w) callerA (.call (.ref fa) ⟨[.ref a], []⟩) (fun r s' => r = .ok (.ret (.bool true)) ∧ OldK s₁.heap s'.heap ∧ s'.os = s₁.os ∧ AllBare s'.gens) s₁ := by
  have rel := are_vals are
  have n_us := are.length
  suffices core : ∀ H : Hp, (∀ b u, H b = some u → b = a ∧ u = .frz { cls := .type "list", data := .seq us.toArray } (.lst (ns.map V.int)) ∧ K.lookup a = none) → SqL K H a (ns.map V.int) →
      codeAny (model P w) callerA (.call (.ref fa) ⟨[.ref a], []⟩) (fun r s' => r = .ok (.ret (.bool true)) ∧ OldK s₁.heap s'.heap ∧ s'.os = s₁.os ∧ AllBare s'.gens) s₁ by
    cases inF : K.lookup a with
    | some o =>
      have same := inK a o inF
      rw [at_a] at same
      cases same
      refine core (fun _ => none) (fun b u z => by cases z) (.inr ⟨_, us.toArray, _, inF, rfl, rfl, rfl, ?_, ?_⟩)
      · rw [List.size_toArray, n_us]
        exact few
      · rw [List.toList_toArray]
        exact rel
    | none =>
      refine core (fun b => if b = a then some (.frz { cls := .type "list", data := .seq us.toArray } (.lst (ns.map V.int))) else none) (fun b u z => ?_) (.inl (.inr ⟨_, if_pos rfl⟩))
      by_cases e : b = a
      · refine ⟨e, ?_, inF⟩
        have z' : (if b = a then some (HO.frz { cls := .type "list", data := .seq us.toArray } (.lst (ns.map V.int))) else none) = some u := z
        rw [if_pos e] at z'
        exact (Option.some.inj z').symm
      · have z' : (if b = a then some (HO.frz { cls := .type "list", data := .seq us.toArray } (.lst (ns.map V.int))) else none) = some u := z
        rw [if_neg e] at z'
        cases z'
  intro H only sq
  have keepK : K.In (hidT s₁.heap H) := fun b o e => hidT_get (inK b o e) (by
    cases q : H b with
    | none => rfl
    | some u =>
      obtain ⟨e1, _, e2⟩ := only b u q
      rw [e1, e2] at e
      cases e)
  have keepN : ∀ {b : Addr} {m : Str → Option Value}, s₁.heap.Ns b m → (hidT s₁.heap H).Ns b m := by
    rintro b m ⟨o, es, ep, e, d, r⟩
    refine ⟨o, es, ep, hidT_get e ?_, d, r⟩
    cases q : H b with
    | none => rfl
    | some u =>
      obtain ⟨e1, _, _⟩ := only b u q
      rw [e1, at_a] at e
      cases e
      cases d
  have ok : HOk P w H s₁.heap := by
    intro b u q
    obtain ⟨rfl, rfl, _⟩ := only b u q
    exact ⟨at_a, (by rw [List.length_map]; exact few), us, _, rel, at_a⟩
  have start : Env0 P w K mg (hidT s₁.heap H) callerA [] s₁ H := by
    refine ⟨rfl, ⟨keepK, keepN gl, ⟨mb, keepN bl, boot⟩, ?_⟩, fun b o e => of_hidT e, Nat.le_of_eq (hidT_size _ _), trivial, fun b hb => ?_, ok, .of_eq gens⟩
    · obtain ⟨mc, h1, h2⟩ := lim
      exact ⟨mc, keepN h1, h2⟩
    · cases hb
  refine codeAny_mono ((F _ keepK (keepN gl)).goes callerA [] s₁ H ⟨[.ref a], []⟩ [.ref a] [.ref a] _ _ rfl room start (binds s₁ (.ref a)) (.cons rfl .nil) (asked H sq)) fun r s' got => ?_
  match r, got with
  | .error _, got => exact False.elim got
  | .ok .next, got => exact False.elim got
  | .ok .brk, got => exact False.elim got
  | .ok .cont, got => exact False.elim got
  | .ok (.ret u), got =>
    obtain ⟨v, H2, os, bare, un, ok2, ru, q⟩ := got
    have q' : v = .bl true := q
    rw [q'] at ru
    have eu : u = Value.bool true := ru
    refine ⟨by rw [eu], OldK.of_keep fun b o e => ?_, os, bare⟩
    cases z : H b with
    | none => exact un.keep b o e z (fun y => by cases y) (fun y => by cases y)
    | some y =>
      obtain ⟨rfl, rfl, _⟩ := only b y z
      rw [at_a] at e
      cases e
      exact (ok2 _ _ (un.frzs _ _ _ z)).1
/-- the goal that k_head leaves, from the law's promise -/
theorem walkG {l : PySem.W.OpenLaw} {k : Nat} {q : Program} {loose : List Str} {XP : (Str → Option Value) → Heap → Prop} {YP : World → Heap → Prop} {d : DefRec} {K : Params → PySem.W.Frag} {sp : PySem.W.Frag → Sp} {x : Str}
    (most : l.most = some 63) (noDflt : d.params.defaults = []) (room : Room k callerA) (inK : ∀ (w : World) (h : Heap), YP w h → (K w.params).In h)
    (F : ∀ (w : World) (mg : Str → Option Value) (fa : Addr) (h : Heap), (K w.params).In h → h.Ns mainGlobals mg → mg d.name = some (.ref fa) →
      ∃ fd : FuncData, (∀ (s : Shared) (u : Value), BindsTo s fd ⟨[u], []⟩ [(x, u)]) ∧ ∀ base : Heap, (K w.params).In base → base.Ns mainGlobals mg → FnG l.prog w (K w.params) mg base k fa fd [x] (sp (K w.params)))
    (asked : ∀ (K : PySem.W.Frag) (H : Hp) (a : Addr) (ns : List Int), ns.length ≤ 63 → SqL K H a (ns.map V.int) → sp K [.ref a] H (fun v _ => v = .bl true) fun _ _ _ => False) :
    PySem.W.WalkO q loose XP YP l.row.toRowW d [] (fun g us => PySem.call g us) := by
  refine Att.attach_call most noDflt fun w s₀ s₁ mg mb fa o pm cd doc a us ns G Y _ _ _ named obj are few gens => ?_
  have KX := inK w _ Y
  obtain ⟨fd, binds, hF⟩ := F w mg fa _ KX G.T.g named
  exact lawG_end KX G.T.g G.T.b G.T.builtins G.T.nolimit gens obj are (Nat.le_trans few (by decide)) room hF binds fun H sq => asked (K w.params) H a ns few sq
end

/-! ### data that is a tuple -/
theorem Tp.tup_inv {H : Hp} {v : V} {ds : List PyData} (h : Tp H v (.tuple ds)) : ∃ a xs, v = .ref a ∧ H a = some (.tup xs) ∧ TpAll H xs ds := by
  cases h with
  | tup h hs => exact ⟨_, _, rfl, h, hs⟩
theorem Tp.int_inv {H : Hp} {v : V} {i : Int} (h : Tp H v (.int i)) : v = .int i := by
  cases h
  rfl
theorem Tp.str_inv {H : Hp} {v : V} {z : Str} (h : Tp H v (.str z)) : v = .str z := by
  cases h
  rfl
theorem Tp.non_inv {H : Hp} {v : V} (h : Tp H v .none) : v = .non := by
  cases h
  rfl
theorem tpAll_strs {H : Hp} : ∀ {ts : List Str} {xs : List V}, TpAll H xs (ts.map .str) → xs = ts.map V.str
  | [], _, .nil => rfl
  | z :: r, _, .cons h hs => by rw [h.str_inv, tpAll_strs hs, List.map_cons]
theorem tpAll_ints {H : Hp} : ∀ {ns : List Int} {xs : List V}, TpAll H xs (ns.map .int) → xs = ns.map V.int
  | [], _, .nil => rfl
  | z :: r, _, .cons h hs => by rw [h.int_inv, tpAll_ints hs, List.map_cons]
theorem tpAll_parts {H : Hp} : ∀ {r : Rc} {xs : List V}, TpAll H xs (r.map Pt.d) → xs = r.map Pt.v
  | [], _, .nil => rfl
  | .s z :: r, _, .cons h hs => by rw [h.str_inv, tpAll_parts hs, List.map_cons]; rfl
  | .b i :: r, _, .cons h hs => by rw [h.int_inv, tpAll_parts hs, List.map_cons]; rfl
theorem Same.put {H H' : Hp} {q : Addr} {o : HO} (s : Same H H') (hq : H q = none) : Same H (upd H' q o) := fun b u e => by
  rw [upd_ne (ne_of_none e hq)]
  exact s b u e
/-- one part of a row of data that is a map -/
theorem TpAll.at {H : Hp} {α : Type} {g : α → PyData} {vs : List V} {l : List α} {i : Nat} {x : α} (h : TpAll H vs (l.map g)) (e : l[i]? = some x) : ∃ v, vs[i]? = some v ∧ Tp H v (g x) :=
  h.get (by rw [List.getElem?_map, e]; rfl)
theorem take_map_more {α β : Type} {l : List α} {g : α → β} {i : Nat} {x : α} (h : l[i]? = some x) : (l.take (i + 1)).map g = (l.take i).map g ++ [g x] := by
  rw [List.take_add_one, h, List.map_append]
  rfl
theorem ix_tupK {X : Cx} (K : PySem.W.Frag) (h : X.K = K := by rfl) : IxR X (rIxT K) := by
  rw [← h]
  exact ix_tup
theorem ix_listK {X : Cx} (K : PySem.W.Frag) (h : X.K = K := by rfl) : IxR X (rIxL K) := by
  rw [← h]
  exact ix_list
theorem isiK {X : Cx} (K : PySem.W.Frag) (h : X.K = K := by rfl) : CallR X (.builtin "isinstance") (rIsi K) := by
  rw [← h]
  exact call_isi
theorem op_catAK {X : Cx} (K : PySem.W.Frag) (h : X.K = K := by rfl) : OpR X (binaryOp .Add) (rCatA K) := by
  rw [← h]
  exact op_catA
theorem iN_app (a : List Nat) (j : Nat) : (iN (a ++ [j])).map V.int = (iN a).map V.int ++ [.int j] := by
  unfold iN
  rw [List.map_append, List.map_append]
  rfl

/-! ### what writers make of words -/
def ptx (ts : List Str) : Pt → Str
  | .s z => z
  | .b i => ts.getD i ""
/-- what a recipe makes of texts -/
def mk (ts : List Str) (r : Rc) : Str := Txt.join "" (r.map (ptx ts))
def tot (ts : List Str) : Nat := (ts.map (·.length)).sum
def lowT (ts : List Str) : Prop := ∀ z ∈ ts, ∀ c ∈ z.cps.toList, 97 ≤ c ∧ c ≤ 122
theorem getD_low {ts : List Str} (h : lowT ts) (i : Nat) : ∀ c ∈ (ts.getD i "").cps.toList, 97 ≤ c ∧ c ≤ 122 := by
  rw [List.getD_eq_getElem?_getD]
  cases e : ts[i]? with
  | none =>
    intro c hc
    have hc' : c ∈ ("" : Str).cps.toList := hc
    cases hc'
  | some z => exact h z (List.mem_of_getElem? e)
theorem mk_low {ts : List Str} {r : Rc} (h : lowT ts) (hr : lowR r) : ∀ c ∈ (mk ts r).cps.toList, 97 ≤ c ∧ c ≤ 122 := by
  intro c hc
  unfold mk at hc
  rw [join_cps] at hc
  obtain ⟨l, h1, h2⟩ := List.mem_flatten.mp hc
  obtain ⟨y, h3, rfl⟩ := List.mem_map.mp h1
  obtain ⟨q, h4, rfl⟩ := List.mem_map.mp h3
  cases q with
  | s z => exact hr _ h4 c h2
  | b i => exact getD_low h i c h2
theorem mk_len (ts : List Str) : ∀ r : Rc, (mk ts r).length = lets r + ((bufs r).map fun i => (ts.getD i "").length).sum := by
  intro r
  unfold mk
  rw [join_len, List.map_map]
  induction r with
  | nil => rfl
  | cons q r ih =>
    rw [List.map_cons, List.sum_cons, ih]
    cases q with
    | s z =>
      have e1 : lets (.s z :: r) = z.length + lets r := by
        unfold lets
        rw [List.map_cons, List.sum_cons]
        rfl
      have e2 : bufs (.s z :: r) = bufs r := by
        unfold bufs
        rw [List.flatMap_cons]
        rfl
      rw [e1, e2, Nat.add_assoc]
      rfl
    | b i =>
      have e1 : lets (.b i :: r) = lets r := by
        unfold lets
        rw [List.map_cons, List.sum_cons]
        exact Nat.zero_add _
      have e2 : bufs (.b i :: r) = i :: bufs r := by
        unfold bufs
        rw [List.flatMap_cons]
        rfl
      rw [e1, e2, List.map_cons, List.sum_cons]
      show (ts.getD i "").length + (lets r + _) = _
      omega
theorem perm_sum {l m : List Nat} (h : l.Perm m) : l.sum = m.sum := by
  induction h with
  | nil => rfl
  | cons x _ ih => rw [List.sum_cons, List.sum_cons, ih]
  | swap x y l => rw [List.sum_cons, List.sum_cons, List.sum_cons, List.sum_cons]; omega
  | trans _ _ a b => exact a.trans b
theorem sub_sum {g : Nat → Nat} : ∀ (l m : List Nat), l.Nodup → (∀ i ∈ l, i ∈ m) → (l.map g).sum ≤ (m.map g).sum
  | [], m, _, _ => Nat.zero_le _
  | a :: r, m, nd, h => by
    rw [List.nodup_cons] at nd
    have pm := List.perm_cons_erase (h a List.mem_cons_self)
    have e := perm_sum (pm.map g)
    rw [e, List.map_cons, List.map_cons, List.sum_cons, List.sum_cons]
    refine Nat.add_le_add_left (sub_sum r (m.erase a) nd.2 fun i hi => ?_) _
    have ne : i ≠ a := fun z => nd.1 (z ▸ hi)
    exact (List.mem_erase_of_ne ne).mpr (h i (List.mem_cons_of_mem _ hi))
theorem range_tot : ∀ (ts : List Str), ((List.range ts.length).map fun i => (ts.getD i "").length).sum = tot ts := by
  intro ts
  have e : (List.range ts.length).map (fun i => (ts.getD i "").length) = ts.map (·.length) := by
    refine List.ext_getElem (by rw [List.length_map, List.length_map, List.length_range]) fun i h1 h2 => ?_
    rw [List.length_map] at h2
    rw [List.getElem_map, List.getElem_map, List.getElem_range, List.getD_eq_getElem?_getD, List.getElem?_eq_getElem h2]
    rfl
  rw [e]
  rfl
theorem bufs_tot {ts : List Str} {l : List Nat} {n : Nat} (nd : l.Nodup) (h : ∀ i ∈ l, i < n) (e : ts.length = n) : (l.map fun i => (ts.getD i "").length).sum ≤ tot ts := by
  rw [← range_tot ts, e]
  exact sub_sum _ _ nd fun i hi => List.mem_range.mpr (h i hi)
theorem tot_all (ts : List Str) : ∀ fs : List Rc, tot (fs.map (mk ts)) = (fs.map lets).sum + ((fs.flatMap bufs).map fun i => (ts.getD i "").length).sum
  | [] => rfl
  | r :: fs => by
    have ih := tot_all ts fs
    unfold tot at ih ⊢
    rw [List.map_cons, List.map_cons, List.sum_cons, ih, mk_len, List.map_cons, List.sum_cons, List.flatMap_cons, List.map_append, List.sum_append]
    omega
theorem lets_all {n : Nat} : ∀ fs : List Rc, (∀ r ∈ fs, lets r ≤ n) → (fs.map lets).sum ≤ n * fs.length
  | [], _ => Nat.zero_le _
  | r :: fs, h => by
    have a := h r List.mem_cons_self
    have b := lets_all fs fun x hx => h x (List.mem_cons_of_mem _ hx)
    rw [List.map_cons, List.sum_cons, List.length_cons, Nat.mul_succ]
    omega
theorem tot_step {ts : List Str} {fs : List Rc} {n : Nat} (h : FOk n fs) (e : ts.length = n) : tot (fs.map (mk ts)) ≤ 10 * n + tot ts := by
  rw [tot_all]
  have a := lets_all fs fun r hr => (h.each r hr).lt
  have b := bufs_tot h.nd h.lt e
  rw [h.len] at a
  omega
theorem tot_mem : ∀ {ts : List Str} {z : Str}, z ∈ ts → z.length ≤ tot ts
  | y :: r, z, h => by
    unfold tot
    rw [List.map_cons, List.sum_cons]
    rcases List.mem_cons.mp h with rfl | h
    · omega
    · have := tot_mem h
      unfold tot at this
      omega
theorem mk_end {ts : List Str} {r : Rc} {n : Nat} (h : EOk n r) (e : ts.length = n) : (mk ts r).length ≤ 12 + tot ts := by
  rw [mk_len]
  have a := h.ok.lt
  have b := bufs_tot h.nd h.lt e
  omega

/-- where an entry leads from texts -/
def goE (ts : List Str) : Option (Nat × List Rc) → Option (Nat × List Str)
  | none => none
  | some (t, fs) => some (t, fs.map (mk ts))
/-- a kind more behind a situation -/
def stepW (W : Wr) (o : Option (Nat × List Str)) (k : Nat) : Option (Nat × List Str) :=
  match o with
  | none => none
  | some (st, ts) => goE ts ((W.rules.getD st []).getD k none)
def runW (W : Wr) (ns : List Nat) : Option (Nat × List Str) := ns.foldl (stepW W) (some (0, W.begins))
def tellW (W : Wr) (ns : List Nat) : Option Str :=
  match runW W ns with
  | none => none
  | some (st, ts) => match W.ends.getD st none with
    | none => none
    | some r => some (mk ts r)
def sitD : Option (Nat × List Str) → PyData
  | none => .none
  | some (st, ts) => .tuple [.int st, .tuple (ts.map .str)]
def txtD : Option Str → PyData
  | none => .none
  | some z => .str z
/-- a situation of a writer with S states, B buffers; its texts have at most n letters -/
structure SOk (S B n : Nat) (st : Nat) (ts : List Str) : Prop where
  st : st < S
  len : ts.length = B
  tot : tot ts ≤ n
  low : lowT ts
theorem ent_at {k S B : Nat} {W : Wr} (h : WOk k S B W) {st kd : Nat} (hs : st < S) (hk : kd < k) : ∃ row e, W.rules[st]? = some row ∧ row[kd]? = some e ∧ (W.rules.getD st []).getD kd none = e ∧ EntOk S B e := by
  have h1 : st < W.rules.length := by rw [h.r1]; exact hs
  have m1 := List.getElem_mem h1
  obtain ⟨r1, r2⟩ := h.r2 _ m1
  have h2 : kd < (W.rules[st]).length := by rw [r1]; exact hk
  refine ⟨W.rules[st], (W.rules[st])[kd], List.getElem?_eq_getElem h1, List.getElem?_eq_getElem h2, ?_, r2 _ (List.getElem_mem h2)⟩
  rw [List.getD_eq_getElem?_getD, List.getD_eq_getElem?_getD, List.getElem?_eq_getElem h1, Option.getD_some, List.getElem?_eq_getElem h2, Option.getD_some]
theorem step_ok {k S B n : Nat} {W : Wr} (h : WOk k S B W) {st kd : Nat} {ts : List Str} (hs : SOk S B n st ts) {t : Nat} {fs : List Rc} (he : EntOk S B (some (t, fs))) : SOk S B (n + 10 * B) t (fs.map (mk ts)) := by
  obtain ⟨h1, h2⟩ := he t fs rfl
  refine ⟨h1, by rw [List.length_map]; exact h2.len, ?_, fun z hz => ?_⟩
  · have a := tot_step h2 hs.len
    have b := hs.tot
    omega
  · obtain ⟨r, hr, rfl⟩ := List.mem_map.mp hz
    exact mk_low hs.low (h2.each r hr).low
theorem begin_ok {k S B : Nat} {W : Wr} (h : WOk k S B W) (hS : 1 ≤ S) : SOk S B (2 * B) 0 W.begins := by
  refine ⟨hS, h.b1, ?_, fun z hz => (h.b2 z hz).low⟩
  have e : ∀ l : List Str, (∀ z ∈ l, Tx 2 z) → tot l ≤ 2 * l.length := by
    intro l
    induction l with
    | nil => exact fun _ => Nat.zero_le _
    | cons z r ih =>
      intro hz
      have a := ih fun y hy => hz y (List.mem_cons_of_mem _ hy)
      have b := (hz z List.mem_cons_self).len
      unfold tot at a ⊢
      rw [List.map_cons, List.sum_cons, List.length_cons]
      omega
  have := e W.begins h.b2
  rw [h.b1] at this
  exact this
theorem stepW_none (W : Wr) (k : Nat) : stepW W none k = none := rfl
theorem fold_none (W : Wr) : ∀ l : List Nat, l.foldl (stepW W) none = none
  | [] => rfl
  | _ :: r => by rw [List.foldl_cons, stepW_none, fold_none W r]
/-- all situations on a word's way are in order -/
theorem run_ok {k S B : Nat} {W : Wr} (h : WOk k S B W) (hS : 1 ≤ S) {ns : List Nat} (hn : ∀ i ∈ ns, i < k) : ∀ st ts, runW W ns = some (st, ts) → SOk S B (2 * B + 10 * B * ns.length) st ts := by
  have main : ∀ (l : List Nat) (o : Option (Nat × List Str)) (n : Nat), (∀ i ∈ l, i < k) → (∀ st ts, o = some (st, ts) → SOk S B n st ts) → ∀ st ts, l.foldl (stepW W) o = some (st, ts) → SOk S B (n + 10 * B * l.length) st ts := by
    intro l
    induction l with
    | nil => exact fun o n _ ho st ts e => ho st ts e
    | cons a r ih =>
      intro o n hl ho st ts e
      rw [List.foldl_cons] at e
      have q := ih (stepW W o a) (n + 10 * B) (fun i hi => hl i (List.mem_cons_of_mem _ hi)) ?_ st ts e
      · refine ⟨q.st, q.len, Nat.le_trans q.tot ?_, q.low⟩
        rw [List.length_cons, Nat.mul_succ]
        omega
      · intro st' ts' e'
        cases o with
        | none => cases e'
        | some x =>
          obtain ⟨s0, t0⟩ := x
          have s1 := ho s0 t0 rfl
          obtain ⟨row, en, _, _, h3, h4⟩ := ent_at h s1.st (hl a List.mem_cons_self)
          have e2 : stepW W (some (s0, t0)) a = goE t0 en := congrArg (goE t0) h3
          rw [e2] at e'
          cases en with
          | none => cases e'
          | some y =>
            obtain ⟨t, fs⟩ := y
            cases e'
            exact step_ok (kd := a) h s1 h4
  intro st ts e
  exact main ns _ (2 * B) hn (fun st ts e => by cases e; exact begin_ok h hS) st ts e
theorem run_more (W : Wr) {ns : List Nat} {i x : Nat} (h : ns[i]? = some x) : runW W (ns.take (i + 1)) = stepW W (runW W (ns.take i)) x := foldl_more (stepW W) _ h


/-! ### words as data -/
def wordD (ns : List Nat) : PyData := .tuple ((iN ns).map .int)
theorem tp_word {H : Hp} {t : Addr} {ns : List Nat} (h : H t = some (.tup ((iN ns).map V.int))) : Tp H (.ref t) (wordD ns) := .tup h (TpAll.map fun z _ => .int z)
theorem Tp.word_inv {H : Hp} {v : V} {ns : List Nat} (h : Tp H v (wordD ns)) : ∃ a, v = .ref a ∧ H a = some (.tup ((iN ns).map V.int)) := by
  obtain ⟨a, xs, rfl, h1, h2⟩ := h.tup_inv
  rw [tpAll_ints h2] at h1
  exact ⟨a, rfl, h1⟩

/-! ### drawn words as rows of numbers -/
theorem iN_nat {b : Int} {n : Nat} {ks : List Int} (h : Wd b n ks) : ∃ ns : List Nat, ks = iN ns ∧ ns.length ≤ n ∧ ∀ i ∈ ns, (i : Int) < b := by
  refine ⟨ks.map Int.toNat, ?_, by rw [List.length_map]; exact h.1, fun i hi => ?_⟩
  · unfold iN
    rw [List.map_map]
    have e : ks.map ((fun (i : Nat) => (i : Int)) ∘ Int.toNat) = ks.map id := List.map_congr_left fun z hz => Int.toNat_of_nonneg (h.2 z hz).1
    rw [e, List.map_id]
  · obtain ⟨z, hz, rfl⟩ := List.mem_map.mp hi
    have := h.2 z hz
    omega

/-! ### recipes made -/
def spMade : Sp := fun vs H Q _ => ∃ (a t : V) (r : Rc) (ts : List Str), vs = [a, t] ∧ Tp H a r.d ∧ Tp H t (.tuple (ts.map .str)) ∧ (∀ i ∈ bufs r, i < ts.length) ∧ r.length ≤ 1000 ∧ (mk ts r).length ≤ 1000000 ∧
  ∀ H', Same H H' → Q (.str (mk ts r)) H'

theorem sc_made : FnScope ["recipe", "texts", "part"] ["recipe", "texts"] (fnScope st_made) := fnScope_by (by decide +kernel)
section
variable {P : Program} {w : World} {K : PySem.W.Frag} {mg : Str → Option Value} {base : Heap} {f : Addr} {fd : FuncData}
theorem cal_made (F : C8.Def K mg "_made" st_made f fd) (b : Binds K fd ["recipe", "texts"] []) (B : BN2 mg) : Cal P w K mg base 1 "_made" spMade [] := by
  refine cal0 F b .nil sc_made (fun vs H Q E h => ?_) (fun cdv A outer s H vs Q E hr h => ?_)
  · obtain ⟨a, t, r, ts, rfl, _⟩ := h
    rfl
  · obtain ⟨a, t, r, ts, rfl, ha, ht, hb, hl, hm, k⟩ := h
    obtain ⟨a, xs, rfl, ha1, ha2⟩ := ha.tup_inv
    obtain ⟨t, ys, rfl, ht1, ht2⟩ := ht.tup_inv
    obtain rfl := tpAll_parts ha2
    obtain rfl := tpAll_strs ht2
    refine ⟨_, pss_one (ps_ret (pe_join pe_str (pe_lc (own := [("part", 2)]) (g := gName 2) (tt := tYes) (by rfl) sc_made.nd (pi_tup (pv 0)) (blkOk_by (own := [("part", 2)]) (N := ["recipe", "texts", "part"]) (sc := fnScope st_made) (by decide +kernel))
      (fun _ _ _ _ _ => pg_name (i := 2) sc_made.nd rfl (Or.inl rfl)) (fun _ _ _ _ _ => pts_nil)
      (fun _ _ _ _ _ => pe_ifExp (pt_val (pe_callB (isiK K) (by rfl) B.isi (by decide +kernel) (pa_cons (pv 2) (pa_cons (pe_bltn (v := .ty "str") (by rfl) B.str (by decide +kernel) rfl) pa_nil)))) (pv 2) (pe_ix (ix_tupK K) (pv 1) (pv 2) (fun _ _ => rfl)))))), ?_⟩
    refine ⟨⟨_, rfl⟩, _, rfl, a, rfl, ⟨_, SqT.of ha1⟩, fun D hD => ?_⟩
    refine lc_tup (K := K) (a := a) (xs := r.map Pt.v) (fun i H' => Same H H' ∧ H' D = some (.lst (((r.take i).map (ptx ts)).map V.str))) ⟨same_new hD, upd_same⟩ (fun i H' _ h => SqT.of (h.1 _ _ ha1)) ?_ ?_
    · rintro i x H1 hi ⟨s1, hL⟩
      obtain ⟨q, hq, rfl⟩ : ∃ q, r[i]? = some q ∧ x = Pt.v q := by
        rw [List.getElem?_map] at hi
        cases e : r[i]? with
        | none =>
          rw [e] at hi
          cases hi
        | some y =>
          rw [e] at hi
          exact ⟨y, rfl, (Option.some.inj hi).symm⟩
      have more : ((r.take (i + 1)).map (ptx ts)).map V.str = ((r.take i).map (ptx ts)).map V.str ++ [V.str (ptx ts q)] := by
        rw [List.take_add_one, hq, List.map_append, List.map_append]
        rfl
      have done : ∃ acc, H1 D = some (.lst acc) ∧ acc.length < sizeLine ∧ Same H (upd H1 D (.lst (acc ++ [.str (ptx ts q)]))) ∧ upd H1 D (.lst (acc ++ [.str (ptx ts q)])) D = some (.lst (((r.take (i + 1)).map (ptx ts)).map V.str)) := by
        refine ⟨_, hL, ?_, Same.put s1 hD, by rw [upd_same, more]⟩
        rw [List.length_map, List.length_map, List.length_take]
        exact Nat.lt_of_le_of_lt (Nat.le_trans (Nat.min_le_right _ _) hl) (by decide)
      refine ⟨rfl, ?_⟩
      obtain ⟨ty, tb, t1, t2, t3, t4⟩ := isi_pt (K := K) (H := H1) q
      refine ⟨_, rfl, q.v, _, ty, _, tb, rfl, .ty _, t1, t2, _, rfl, ?_⟩
      cases tb with
      | true =>
        obtain ⟨z, rfl⟩ := t3 rfl
        exact iteT ⟨_, rfl, done⟩
      | false =>
        obtain ⟨j, rfl⟩ := t4 rfl
        have hj : j < ts.length := hb j (List.mem_flatMap.mpr ⟨_, List.mem_of_getElem? hq, List.mem_singleton.mpr rfl⟩)
        refine iteF ⟨_, rfl, _, rfl, t, _, (j : Int), .str (ptx ts (.b j)), rfl, rfl, SqT.of (s1 _ _ ht1), atI_nat ?_, done⟩
        rw [List.getElem?_map, List.getElem?_eq_getElem hj]
        show some (V.str ts[j]) = some (V.str (ts.getD j ""))
        rw [List.getD_eq_getElem?_getD, List.getElem?_eq_getElem hj]
        rfl
    · rintro H1 ⟨s1, hL⟩
      rw [List.length_map, List.take_length] at hL
      refine ⟨_, D, r.map (ptx ts), rfl, rfl, .inl (SqL.of hL), ?_, k _ s1⟩
      rw [← join_len]
      have e : (("" : Str)).length = 0 := by decide
      rw [e, Nat.mul_zero, Nat.add_zero]
      exact Nat.le_trans hm (by decide)
end

theorem sc_law_made : FnScope ["recipe", "texts", "part"] ["recipe", "texts"] (fnScope st_law_made) := fnScope_by (by decide +kernel)
section
variable {P : Program} {w : World} {K : PySem.W.Frag} {mg : Str → Option Value} {base : Heap} {f : Addr} {fd : FuncData}
theorem cal_law_made (F : C8.Def K mg "_law_made" st_law_made f fd) (b : Binds K fd ["recipe", "texts"] []) (B : BN2 mg) : Cal P w K mg base 1 "_law_made" spMade [] := by
  refine cal0 F b .nil sc_law_made (fun vs H Q E h => ?_) (fun cdv A outer s H vs Q E hr h => ?_)
  · obtain ⟨a, t, r, ts, rfl, _⟩ := h
    rfl
  · obtain ⟨a, t, r, ts, rfl, ha, ht, hb, hl, hm, k⟩ := h
    obtain ⟨a, xs, rfl, ha1, ha2⟩ := ha.tup_inv
    obtain ⟨t, ys, rfl, ht1, ht2⟩ := ht.tup_inv
    obtain rfl := tpAll_parts ha2
    obtain rfl := tpAll_strs ht2
    refine ⟨_, pss_one (ps_ret (pe_join pe_str (pe_lc (own := [("part", 2)]) (g := gName 2) (tt := tYes) (by rfl) sc_law_made.nd (pi_tup (pv 0)) (blkOk_by (own := [("part", 2)]) (N := ["recipe", "texts", "part"]) (sc := fnScope st_law_made) (by decide +kernel))
      (fun _ _ _ _ _ => pg_name (i := 2) sc_law_made.nd rfl (Or.inl rfl)) (fun _ _ _ _ _ => pts_nil)
      (fun _ _ _ _ _ => pe_ifExp (pt_val (pe_callB (isiK K) (by rfl) B.isi (by decide +kernel) (pa_cons (pv 2) (pa_cons (pe_bltn (v := .ty "str") (by rfl) B.str (by decide +kernel) rfl) pa_nil)))) (pv 2) (pe_ix (ix_tupK K) (pv 1) (pv 2) (fun _ _ => rfl)))))), ?_⟩
    refine ⟨⟨_, rfl⟩, _, rfl, a, rfl, ⟨_, SqT.of ha1⟩, fun D hD => ?_⟩
    refine lc_tup (K := K) (a := a) (xs := r.map Pt.v) (fun i H' => Same H H' ∧ H' D = some (.lst (((r.take i).map (ptx ts)).map V.str))) ⟨same_new hD, upd_same⟩ (fun i H' _ h => SqT.of (h.1 _ _ ha1)) ?_ ?_
    · rintro i x H1 hi ⟨s1, hL⟩
      obtain ⟨q, hq, rfl⟩ : ∃ q, r[i]? = some q ∧ x = Pt.v q := by
        rw [List.getElem?_map] at hi
        cases e : r[i]? with
        | none =>
          rw [e] at hi
          cases hi
        | some y =>
          rw [e] at hi
          exact ⟨y, rfl, (Option.some.inj hi).symm⟩
      have more : ((r.take (i + 1)).map (ptx ts)).map V.str = ((r.take i).map (ptx ts)).map V.str ++ [V.str (ptx ts q)] := by
        rw [List.take_add_one, hq, List.map_append, List.map_append]
        rfl
      have done : ∃ acc, H1 D = some (.lst acc) ∧ acc.length < sizeLine ∧ Same H (upd H1 D (.lst (acc ++ [.str (ptx ts q)]))) ∧ upd H1 D (.lst (acc ++ [.str (ptx ts q)])) D = some (.lst (((r.take (i + 1)).map (ptx ts)).map V.str)) := by
        refine ⟨_, hL, ?_, Same.put s1 hD, by rw [upd_same, more]⟩
        rw [List.length_map, List.length_map, List.length_take]
        exact Nat.lt_of_le_of_lt (Nat.le_trans (Nat.min_le_right _ _) hl) (by decide)
      refine ⟨rfl, ?_⟩
      obtain ⟨ty, tb, t1, t2, t3, t4⟩ := isi_pt (K := K) (H := H1) q
      refine ⟨_, rfl, q.v, _, ty, _, tb, rfl, .ty _, t1, t2, _, rfl, ?_⟩
      cases tb with
      | true =>
        obtain ⟨z, rfl⟩ := t3 rfl
        exact iteT ⟨_, rfl, done⟩
      | false =>
        obtain ⟨j, rfl⟩ := t4 rfl
        have hj : j < ts.length := hb j (List.mem_flatMap.mpr ⟨_, List.mem_of_getElem? hq, List.mem_singleton.mpr rfl⟩)
        refine iteF ⟨_, rfl, _, rfl, t, _, (j : Int), .str (ptx ts (.b j)), rfl, rfl, SqT.of (s1 _ _ ht1), atI_nat ?_, done⟩
        rw [List.getElem?_map, List.getElem?_eq_getElem hj]
        show some (V.str ts[j]) = some (V.str (ts.getD j ""))
        rw [List.getD_eq_getElem?_getD, List.getElem?_eq_getElem hj]
        rfl
    · rintro H1 ⟨s1, hL⟩
      rw [List.length_map, List.take_length] at hL
      refine ⟨_, D, r.map (ptx ts), rfl, rfl, .inl (SqL.of hL), ?_, k _ s1⟩
      rw [← join_len]
      have e : (("" : Str)).length = 0 := by decide
      rw [e, Nat.mul_zero, Nat.add_zero]
      exact Nat.le_trans hm (by decide)
end

/-! ### the program's runs, the law's runs -/
def spFilled : Sp := fun vs H Q _ => ∃ (a t : V) (fs : List Rc) (ts : List Str) (n : Nat), vs = [a, t] ∧ Tp H a (fillsD fs) ∧ Tp H t (.tuple (ts.map .str)) ∧ FOk n fs ∧ ts.length = n ∧ n ≤ 50 ∧ tot ts ≤ 900000 ∧
  ∀ (v : V) H', Same H H' → Tp H' v (.tuple ((fs.map (mk ts)).map .str)) → Q v H'
def spBehind : Sp := fun vs H Q _ => ∃ (a t : V) (W : Wr) (ns : List Nat) (k S B : Nat), vs = [a, t] ∧ Tp H a W.d ∧ Tp H t (wordD ns) ∧ WOk k S B W ∧ 1 ≤ S ∧ B ≤ 50 ∧ (∀ i ∈ ns, i < k) ∧ ns.length ≤ 1000 ∧
  ∀ (v : V) H', Same H H' → Tp H' v (sitD (runW W ns)) → Q v H'
def spTell : Sp := fun vs H Q _ => ∃ (a t : V) (W : Wr) (ns : List Nat) (k S B : Nat), vs = [a, t] ∧ Tp H a W.d ∧ Tp H t (wordD ns) ∧ WOk k S B W ∧ 1 ≤ S ∧ B ≤ 50 ∧ (∀ i ∈ ns, i < k) ∧ ns.length ≤ 1000 ∧
  ∀ (v : V) H', Same H H' → Tp H' v (txtD (tellW W ns)) → Q v H'
theorem fills_one {n : Nat} {fs : List Rc} {ts : List Str} (h : FOk n fs) (e : ts.length = n) (ht : tot ts ≤ 900000) (hn : n ≤ 50) {r : Rc} (hr : r ∈ fs) : (∀ i ∈ bufs r, i < ts.length) ∧ r.length ≤ 1000 ∧ (mk ts r).length ≤ 1000000 := by
  refine ⟨fun i hi => by rw [e]; exact h.lt i (List.mem_flatMap.mpr ⟨r, hr, hi⟩), Nat.le_trans (h.each r hr).len (by decide), ?_⟩
  have a := tot_mem (ts := fs.map (mk ts)) (List.mem_map_of_mem hr)
  have b := tot_step h e
  omega
theorem sc_filled : FnScope ["fills", "texts", "recipe"] ["fills", "texts"] (fnScope st_filled) := fnScope_by (by decide +kernel)
section
variable {P : Program} {w : World} {K : PySem.W.Frag} {mg : Str → Option Value} {base : Heap} {f : Addr} {fd : FuncData}
theorem cal_filled (F : C8.Def K mg "_filled" st_filled f fd) (b : Binds K fd ["fills", "texts"] []) (B : BN2 mg) (Cm : Cal P w K mg base 1 "_made" spMade []) : Cal P w K mg base 2 "_filled" spFilled [] := by
  refine cal0 F b .nil sc_filled (fun vs H Q E h => ?_) (fun cdv A outer s H vs Q E hr h => ?_)
  · obtain ⟨a, t, fs, ts, n, rfl, _⟩ := h
    rfl
  · obtain ⟨a, t, fs, ts, n, rfl, ha, ht, hf, hn, h50, htot, k⟩ := h
    obtain ⟨a, xs, rfl, ha1, ha2⟩ := ha.tup_inv
    refine ⟨_, pss_one (ps_ret (pe_callTy call_tuple_of (by rfl) B.tuple (by decide +kernel) (pa_cons (pe_lc (own := [("recipe", 2)]) (g := gName 2) (tt := tYes) (by rfl) sc_filled.nd (pi_tup (pv 0))
      (blkOk_by (own := [("recipe", 2)]) (N := ["fills", "texts", "recipe"]) (sc := fnScope st_filled) (by decide +kernel)) (fun _ _ _ _ _ => pg_name (i := 2) sc_filled.nd rfl (Or.inl rfl)) (fun _ _ _ _ _ => pts_nil)
      (fun _ _ _ _ _ => pe_c Cm hr (by decide) (by rfl) (pa_cons (pv 2) (pa_cons (pv 1) pa_nil)))) pa_nil))), ?_⟩
    refine ⟨_, rfl, a, rfl, ⟨_, SqT.of ha1⟩, fun D hD => ?_⟩
    have lenx : xs.length = fs.length := by rw [ha2.len, List.length_map]
    refine lc_tup (K := K) (a := a) (xs := xs) (fun i H' => Same H H' ∧ H' D = some (.lst (((fs.take i).map (mk ts)).map V.str))) ⟨same_new hD, upd_same⟩ (fun i H' _ h => SqT.of (h.1 _ _ ha1)) ?_ ?_
    · rintro i x H1 hi ⟨s1, hL⟩
      have hlt : i < fs.length := by
        have := (List.getElem?_eq_some_iff.mp hi).1
        omega
      obtain ⟨v, hv, tv⟩ := ha2.at (List.getElem?_eq_getElem hlt)
      rw [hi] at hv
      cases hv
      have mem := List.getElem_mem hlt
      obtain ⟨m1, m2, m3⟩ := fills_one hf hn htot h50 mem
      refine ⟨rfl, ?_⟩
      refine ⟨_, rfl, _, rfl, x, t, fs[i], ts, rfl, tv.mono (Same.tk s1), ht.mono (Same.tk s1), m1, m2, m3, fun H2 s2 => ?_⟩
      refine ⟨_, s2 _ _ hL, ?_, Same.put (Same.trans s1 s2) hD, ?_⟩
      · rw [List.length_map, List.length_map, List.length_take]
        exact Nat.lt_of_le_of_lt (Nat.le_trans (Nat.min_le_right _ _) (show fs.length ≤ 50 by rw [hf.len]; exact h50)) (by decide)
      · rw [upd_same, take_map_more (List.getElem?_eq_getElem hlt), List.map_append]
        rfl
    · rintro H1 ⟨s1, hL⟩
      rw [lenx, List.take_length] at hL
      refine ⟨D, _, rfl, .inl ⟨SqL.of hL, fun u hu => k _ _ (Same.trans s1 (same_new hu)) (.tup upd_same (TpAll.map fun z _ => .str z))⟩⟩
end

theorem end_at {k S B : Nat} {W : Wr} (h : WOk k S B W) {st : Nat} (hs : st < S) : ∃ e, W.ends[st]? = some e ∧ W.ends.getD st none = e ∧ ∀ q, e = some q → EOk B q := by
  have h1 : st < W.ends.length := by rw [h.e1]; exact hs
  exact ⟨W.ends[st], List.getElem?_eq_getElem h1, by rw [List.getD_eq_getElem?_getD, List.getElem?_eq_getElem h1, Option.getD_some], h.e2 _ (List.getElem_mem h1)⟩
theorem bound9 {B n : Nat} (h50 : B ≤ 50) (hn : n ≤ 1000) : 2 * B + 10 * B * n ≤ 600000 := by
  have e2 : 10 * B * n ≤ 10 * 50 * 1000 := Nat.mul_le_mul (Nat.mul_le_mul_left 10 h50) hn
  omega
theorem end_fits {S B n st : Nat} {ts : List Str} {r : Rc} (so : SOk S B n st ts) (h : EOk B r) (hn : n ≤ 600000) : (∀ i ∈ bufs r, i < ts.length) ∧ r.length ≤ 1000 ∧ (mk ts r).length ≤ 1000000 := by
  refine ⟨fun i hi => by rw [so.len]; exact h.lt i hi, Nat.le_trans h.ok.len (by decide), ?_⟩
  have a := mk_end h so.len
  have b := so.tot
  omega
theorem tell_some {W : Wr} {ns : List Nat} {st : Nat} {ts : List Str} (er : runW W ns = some (st, ts)) : tellW W ns = (W.ends.getD st none).map (mk ts) := by
  unfold tellW
  rw [er]
  show (match W.ends.getD st none with | none => none | some r => some (mk ts r)) = _
  cases W.ends.getD st none <;> rfl
theorem tell_none {W : Wr} {ns : List Nat} (er : runW W ns = none) : tellW W ns = none := by
  unfold tellW
  rw [er]

/-! ### the program's runs, from any situation -/
theorem fold_ok {k S B : Nat} {W : Wr} (h : WOk k S B W) : ∀ (l : List Nat) (o : Option (Nat × List Str)) (n : Nat), (∀ i ∈ l, i < k) → (∀ st ts, o = some (st, ts) → SOk S B n st ts) → ∀ st ts, l.foldl (stepW W) o = some (st, ts) → SOk S B (n + 10 * B * l.length) st ts := by
  intro l
  induction l with
  | nil => exact fun o n _ ho st ts e => ho st ts e
  | cons a r ih =>
    intro o n hl ho st ts e
    rw [List.foldl_cons] at e
    have q := ih (stepW W o a) (n + 10 * B) (fun i hi => hl i (List.mem_cons_of_mem _ hi)) ?_ st ts e
    · refine ⟨q.st, q.len, Nat.le_trans q.tot ?_, q.low⟩
      rw [List.length_cons, Nat.mul_succ]
      omega
    · intro st' ts' e'
      cases o with
      | none => cases e'
      | some x =>
        obtain ⟨s0, t0⟩ := x
        have s1 := ho s0 t0 rfl
        obtain ⟨row, en, _, _, h3, h4⟩ := ent_at h s1.st (hl a List.mem_cons_self)
        have e2 : stepW W (some (s0, t0)) a = goE t0 en := congrArg (goE t0) h3
        rw [e2] at e'
        cases en with
        | none => cases e'
        | some y =>
          obtain ⟨t, fs⟩ := y
          cases e'
          exact step_ok (kd := a) h s1 h4
def tellO (W : Wr) : Option (Nat × List Str) → Option Str
  | none => none
  | some (st, ts) => (W.ends.getD st none).map (mk ts)
theorem tell_O (W : Wr) (ns : List Nat) : tellW W ns = tellO W (runW W ns) := by
  cases er : runW W ns with
  | none => exact tell_none er
  | some o =>
    obtain ⟨st, ts⟩ := o
    exact tell_some er
def FromOk (H : Hp) (vs : List V) (W : Wr) (ns : List Nat) (st : Nat) (ts : List Str) : Prop := ∃ (a x t : V) (k S B n : Nat), vs = [a, x, t] ∧ Tp H a W.d ∧ Tp H x (sitD (some (st, ts))) ∧ Tp H t (wordD ns) ∧ WOk k S B W ∧ SOk S B n st ts ∧ n ≤ 100000 ∧ B ≤ 50 ∧ (∀ i ∈ ns, i < k) ∧ ns.length ≤ 1000
def spBehindF : Sp := fun vs H Q _ => ∃ (W : Wr) (ns : List Nat) (st : Nat) (ts : List Str), FromOk H vs W ns st ts ∧ ∀ (v : V) H', Same H H' → Tp H' v (sitD (ns.foldl (stepW W) (some (st, ts)))) → Q v H'
def spTellF : Sp := fun vs H Q _ => ∃ (W : Wr) (ns : List Nat) (st : Nat) (ts : List Str), FromOk H vs W ns st ts ∧ ∀ (v : V) H', Same H H' → Tp H' v (txtD (tellO W (ns.foldl (stepW W) (some (st, ts))))) → Q v H'
theorem sc_behind_from : FnScope ["writer", "situation", "word", "state", "texts", "kind", "entry", "fills"] ["writer", "situation", "word"] (fnScope st_behind_from_) := fnScope_by (by decide +kernel)
section
variable {P : Program} {w : World} {K : PySem.W.Frag} {mg : Str → Option Value} {base : Heap} {f : Addr} {fd : FuncData}
theorem cal_behind_from_ (F : C8.Def K mg "behind_from" st_behind_from_ f fd) (b : Binds K fd ["writer", "situation", "word"] []) (Cf : Cal P w K mg base 2 "_filled" spFilled []) : Cal P w K mg base 3 "behind_from" spBehindF [] := by
  refine cal0 F b .nil sc_behind_from (fun vs H Q E h => ?_) (fun cdv A outer s H vs Q E hr h => ?_)
  · obtain ⟨W, ns, st, ts, ⟨a, x, t, k, S, B, n, rfl, _⟩, _⟩ := h
    rfl
  · obtain ⟨W, ns, st0, ts0, ⟨a, x, t, kk, S, Bf, n0, rfl, ha, hx, ht, hW, hS0, hn0, h50, hns, hln⟩, k⟩ := h
    obtain ⟨a, xs, rfl, ha1, ha2⟩ := ha.tup_inv
    cases ha2 with
    | @cons vb x2 _ _ tb h2 =>
    cases h2 with
    | @cons vr x3 _ _ tr h3 =>
    obtain ⟨t, rfl, ht1⟩ := ht.word_inv
    obtain ⟨ra, rx, rfl, tr1, tr2⟩ := tr.tup_inv
    obtain ⟨sa, sx, rfl, sx1, sx2⟩ := hx.tup_inv
    cases sx2 with
    | @cons vst y1 _ _ u1 u2 =>
    cases u2 with
    | @cons vts y2 _ _ u3 u4 =>
    cases u4
    obtain rfl := u1.int_inv
    refine ⟨_, pss_cons (ps_asg (pv 1) (pg_tup rfl (pgs_cons (pg_name (i := 3) sc_behind_from.nd rfl (Or.inl rfl)) (pgs_cons (pg_name (i := 4) sc_behind_from.nd rfl (Or.inl rfl)) pgs_nil))))
      (pss_cons (ps_for PassesOwn.never rfl (pi_tup (pv 2)) (pg_name (i := 5) sc_behind_from.nd rfl (Or.inl rfl))
        (pss_cons (ps_set (i := 6) sc_behind_from.nd rfl (Or.inl rfl) (pe_ix ix_tup (pe_ix ix_tup (pe_ix ix_tup (pv 0) pe_int (fun _ _ => rfl)) (pv 3) (fun _ _ => rfl)) (pv 5) (fun _ _ => rfl)))
        (pss_cons (ps_if (pt_cmp (pc_isN (pv 6))) (pss_one (ps_ret pe_non)) pss_nil)
        (pss_cons (ps_asg (pv 6) (pg_tup rfl (pgs_cons (pg_name (i := 3) sc_behind_from.nd rfl (Or.inl rfl)) (pgs_cons (pg_name (i := 7) sc_behind_from.nd rfl (Or.inl rfl)) pgs_nil))))
        (pss_one (ps_set (i := 4) sc_behind_from.nd rfl (Or.inl rfl) (pe_c Cf hr (by decide) (by rfl) (pa_cons (pv 7) (pa_cons (pv 4) pa_nil)))))))))
      (pss_one (ps_ret (pe_tup (pa_cons (pv 3) (pa_cons (pv 4) pa_nil)))))), ?_⟩
    refine ⟨_, rfl, sa, _, rfl, SqT.of sx1, rfl, _, _, rfl, _, _, rfl, rfl, ?_⟩
    have bd : ∀ m : Nat, m ≤ 1000 → n0 + 10 * Bf * m ≤ 600000 := fun m hm => by
      have e2 : 10 * Bf * m ≤ 10 * 50 * 1000 := Nat.mul_le_mul (Nat.mul_le_mul_left 10 h50) hm
      omega
    refine ⟨_, rfl, t, rfl, ⟨_, SqT.of ht1⟩, for_tup (K := K) (a := t) (xs := (iN ns).map V.int) (fun i σ H' => Same H H' ∧ ∃ (st : Nat) (ts : List Str) (vt : V) (v6 v7 v8 : Option V), (ns.take i).foldl (stepW W) (some (st0, ts0)) = some (st, ts) ∧ Tp H' vt (.tuple (ts.map .str)) ∧
      σ = [some (.ref a), some (.ref sa), some (.ref t), some (.int st), some vt, v6, v7, v8]) ⟨Same.refl H, st0, ts0, vts, none, none, none, rfl, u3, rfl⟩ (fun i σ H' _ h => SqT.of (h.1 _ _ ht1)) ?_ ?_⟩
    · rintro i x σ H1 hi ⟨s1, st, ts, vt, v6, v7, v8, er, tvt, rfl⟩
      obtain ⟨kd, hkd, rfl⟩ : ∃ kd, ns[i]? = some kd ∧ x = V.int (kd : Nat) := by
        unfold iN at hi
        rw [List.map_map, List.getElem?_map] at hi
        cases e : ns[i]? with
        | none =>
          rw [e] at hi
          cases hi
        | some y =>
          rw [e] at hi
          exact ⟨y, rfl, (Option.some.inj hi).symm⟩
      have hk := hns kd (List.mem_of_getElem? hkd)
      have so := fold_ok hW (ns.take i) (some (st0, ts0)) n0 (fun j hj => hns j (List.mem_of_mem_take hj)) (fun st ts e => by cases e; exact hS0) st ts er
      obtain ⟨row, en, g1, g2, g3, g4⟩ := ent_at hW so.st hk
      obtain ⟨rv, w1, w2⟩ := tr2.at g1
      obtain ⟨rwa, rws, rfl, w3, w4⟩ := w2.tup_inv
      obtain ⟨ev, w5, w6⟩ := w4.at g2
      have step : (ns.take (i + 1)).foldl (stepW W) (some (st0, ts0)) = goE ts en := by
        rw [foldl_more (stepW W) _ hkd, er]
        exact congrArg (goE ts) g3
      refine ⟨_, rfl, a, _, _, _, rfl, rfl, SqT.of (s1 _ _ ha1), atI_nat (j := 1) rfl, _, rfl, ra, rx, _, _, rfl, rfl, SqT.of (s1 _ _ tr1), atI_nat w1, _, rfl, rwa, rws, _, _, rfl, rfl, SqT.of (s1 _ _ w3), atI_nat w5, ?_⟩
      refine ⟨_, rfl, _, rfl, ?_⟩
      cases en with
      | none =>
        obtain rfl := w6.non_inv
        refine iteT' (decide_eq_true rfl) ?_
        refine k _ _ s1 ?_
        have z : ns.foldl (stepW W) (some (st0, ts0)) = none := by
          have e2 : ns.foldl (stepW W) (some (st0, ts0)) = (ns.drop (i + 1)).foldl (stepW W) ((ns.take (i + 1)).foldl (stepW W) (some (st0, ts0))) := by
            rw [← List.foldl_append, List.take_append_drop]
          rw [e2, step]
          exact fold_none W _
        rw [z]
        exact .non
      | some y =>
        obtain ⟨tg, fs⟩ := y
        obtain ⟨ea, es, rfl, w7, w8⟩ := w6.tup_inv
        cases w8 with
        | @cons vtg x9 _ _ u1 u2 =>
        cases u2 with
        | @cons vfs x10 _ _ u3 u4 =>
        cases u4
        obtain rfl := u1.int_inv
        refine iteF' (decide_eq_false (fun z => by cases z)) ?_
        obtain ⟨g5, g6⟩ := g4 tg fs rfl
        refine ⟨_, rfl, ea, _, rfl, SqT.of (s1 _ _ w7), rfl, _, _, rfl, _, _, rfl, rfl, ?_⟩
        have bound : tot ts ≤ 900000 := by
          have e1 : (ns.take i).length ≤ 1000 := by rw [List.length_take]; omega
          have := so.tot
          have := bd _ e1
          omega
        refine ⟨_, rfl, _, rfl, vfs, vt, fs, ts, Bf, rfl, u3.mono (Same.tk s1), tvt, g6, so.len, h50, bound, fun v H2 s2 tv => ?_⟩
        exact ⟨Same.trans s1 s2, tg, fs.map (mk ts), v, _, _, _, step, tv, rfl⟩
    · rintro σ H1 ⟨s1, st, ts, vt, v6, v7, v8, er, tvt, rfl⟩
      have e : ((iN ns).map V.int).length = ns.length := by
        unfold iN
        rw [List.length_map, List.length_map]
      rw [e, List.take_length] at er
      refine ⟨_, rfl, _, rfl, (by show 2 ≤ sizeLine; decide), fun u hu => k _ _ (Same.trans s1 (same_new hu)) ?_⟩
      rw [er]
      exact .tup upd_same (.cons (.int st) (.cons (tvt.mono (tk_new hu)) .nil))
end

/-! ### the program's texts, from any situation -/
theorem sc_text_from : FnScope ["writer", "situation", "word", "found"] ["writer", "situation", "word"] (fnScope st_text_from_) := fnScope_by (by decide +kernel)
theorem sc_text_for_ : FnScope ["writer", "word"] ["writer", "word"] (fnScope st_text_for_) := fnScope_by (by decide +kernel)
section
variable {P : Program} {w : World} {K : PySem.W.Frag} {mg : Str → Option Value} {base : Heap} {f : Addr} {fd : FuncData}
theorem cal_text_from_ (F : C8.Def K mg "text_from" st_text_from_ f fd) (b : Binds K fd ["writer", "situation", "word"] []) (Cb : Cal P w K mg base 3 "behind_from" spBehindF []) (Cm : Cal P w K mg base 1 "_made" spMade []) : Cal P w K mg base 4 "text_from" spTellF [] := by
  refine cal0 F b .nil sc_text_from (fun vs H Q E h => ?_) (fun cdv A outer s H vs Q E hr h => ?_)
  · obtain ⟨W, ns, st, ts, ⟨a, x, t, k, S, B, n, rfl, _⟩, _⟩ := h
    rfl
  · obtain ⟨W, ns, st0, ts0, ⟨a, x, t, kk, S, Bf, n0, rfl, ha, hx, ht, hW, hS0, hn0, h50, hns, hln⟩, k⟩ := h
    refine ⟨_, pss_cons (ps_set (i := 3) sc_text_from.nd rfl (Or.inl rfl) (pe_c Cb hr (by decide) (by rfl) (pa_cons (pv 0) (pa_cons (pv 1) (pa_cons (pv 2) pa_nil)))))
      (pss_cons (ps_if (PW.pt (pw_or (pt_cmp (pc_isN (pv 3))) (pw_or1 (pt_cmp (pc_isN (pe_ix ix_tup (pe_ix ix_tup (pv 0) pe_int (fun _ _ => rfl)) (pe_ix ix_tup (pv 3) pe_int (fun _ _ => rfl)) (fun _ _ => rfl))))))) (pss_one (ps_ret pe_non)) pss_nil)
      (pss_one (ps_ret (pe_c Cm hr (by decide) (by rfl) (pa_cons (pe_ix ix_tup (pe_ix ix_tup (pv 0) pe_int (fun _ _ => rfl)) (pe_ix ix_tup (pv 3) pe_int (fun _ _ => rfl)) (fun _ _ => rfl)) (pa_cons (pe_ix ix_tup (pv 3) pe_int (fun _ _ => rfl)) pa_nil)))))), ?_⟩
    refine ⟨_, rfl, _, rfl, _, rfl, W, ns, st0, ts0, ⟨a, x, t, kk, S, Bf, n0, rfl, ha, hx, ht, hW, hS0, hn0, h50, hns, hln⟩, fun sv H1 s1 tsv => ?_⟩
    refine ⟨_, rfl, _, rfl, ?_⟩
    cases er : ns.foldl (stepW W) (some (st0, ts0)) with
    | none =>
      rw [er] at tsv k
      obtain rfl := tsv.non_inv
      exact iteT' (decide_eq_true rfl) (iteT (k _ _ s1 .non))
    | some o =>
      obtain ⟨st, ts⟩ := o
      rw [er] at tsv k
      obtain ⟨sa, sx, rfl, h1, h2⟩ := tsv.tup_inv
      cases h2 with
      | @cons vst x1 _ _ u1 u2 =>
      cases u2 with
      | @cons vts x2 _ _ u3 u4 =>
      cases u4
      obtain rfl := u1.int_inv
      have so := fold_ok hW ns (some (st0, ts0)) n0 hns (fun st ts e => by cases e; exact hS0) st ts er
      have bd : n0 + 10 * Bf * ns.length ≤ 600000 := by
        have e2 : 10 * Bf * ns.length ≤ 10 * 50 * 1000 := Nat.mul_le_mul (Nat.mul_le_mul_left 10 h50) hln
        omega
      obtain ⟨e, e1, e2, e3⟩ := end_at hW so.st
      obtain ⟨wa, wx, rfl, w1, w2⟩ := ha.tup_inv
      cases w2 with
      | @cons vb x3 _ _ tb w3 =>
      cases w3 with
      | @cons vr x4 _ _ tr w4 =>
      cases w4 with
      | @cons ve x5 _ _ te w5 =>
      cases w5
      obtain ⟨ea, ex, rfl, w6, w7⟩ := te.tup_inv
      obtain ⟨ev, w8, w9⟩ := w7.at e1
      have kt : tellO W (some (st, ts)) = e.map (mk ts) := by
        show (W.ends.getD st none).map (mk ts) = _
        rw [e2]
      rw [kt] at k
      refine iteF' (decide_eq_false (fun z => by cases z)) ?_
      refine ⟨_, rfl, wa, _, _, _, rfl, rfl, SqT.of (s1 _ _ w1), atI_nat (j := 2) rfl, _, rfl, sa, _, _, _, rfl, rfl, SqT.of h1, atI_nat (j := 0) rfl, ea, ex, _, _, rfl, rfl, SqT.of (s1 _ _ w6), atI_nat w8, _, rfl, ?_⟩
      cases e with
      | none =>
        obtain rfl := w9.non_inv
        exact iteT' (decide_eq_true rfl) (k _ _ s1 .non)
      | some r =>
        obtain ⟨g1, g2, g3⟩ := end_fits so (e3 r rfl) bd
        have ne : ev ≠ .non := by
          obtain ⟨ra, rx, rfl, _⟩ := w9.tup_inv
          intro z
          cases z
        refine iteF' (decide_eq_false ne) ?_
        refine ⟨_, rfl, wa, _, _, _, rfl, rfl, SqT.of (s1 _ _ w1), atI_nat (j := 2) rfl, _, rfl, sa, _, _, _, rfl, rfl, SqT.of h1, atI_nat (j := 0) rfl, ea, ex, _, _, rfl, rfl, SqT.of (s1 _ _ w6), atI_nat w8, ?_⟩
        refine ⟨_, rfl, sa, _, _, _, rfl, rfl, SqT.of h1, atI_nat (j := 1) rfl, ev, vts, r, ts, rfl, w9.mono (Same.tk s1), u3, g1, g2, g3, fun H2 s2 => k _ _ (Same.trans s1 s2) ?_⟩
        exact .str _
theorem cal_text_for_ (F : C8.Def K mg "text_for" st_text_for_ f fd) (b : Binds K fd ["writer", "word"] []) (Ct : Cal P w K mg base 4 "text_from" spTellF []) : Cal P w K mg base 5 "text_for" spTell [] := by
  refine cal0 F b .nil sc_text_for_ (fun vs H Q E h => ?_) (fun cdv A outer s H vs Q E hr h => ?_)
  · obtain ⟨a, t, W, ns, k, S, B, rfl, _⟩ := h
    rfl
  · obtain ⟨a, t, W, ns, kk, S, Bf, rfl, ha, ht, hW, hS, h50, hns, hln, k⟩ := h
    have ha0 := ha
    obtain ⟨a, xs, rfl, ha1, ha2⟩ := ha.tup_inv
    cases ha2 with
    | @cons vb x2 _ _ tb h2 =>
    refine ⟨_, pss_one (ps_ret (pe_c Ct hr (by decide) (by rfl) (pa_cons (pv 0) (pa_cons (pe_tup (pa_cons pe_int (pa_cons (pe_ix ix_tup (pv 0) pe_int (fun _ _ => rfl)) pa_nil))) (pa_cons (pv 1) pa_nil))))), ?_⟩
    refine ⟨_, rfl, _, rfl, a, _, _, _, rfl, rfl, SqT.of ha1, atI_nat (j := 0) rfl, (by show 2 ≤ sizeLine; decide), fun u hu => ⟨_, rfl, ?_⟩⟩
    have s0 := same_new (o := .tup [.int 0, vb]) hu
    refine ⟨W, ns, 0, W.begins, ⟨_, _, _, kk, S, Bf, 2 * Bf, rfl, ha0.mono (Same.tk s0), .tup upd_same (.cons (.int 0) (.cons (tb.mono (Same.tk s0)) .nil)), ht.mono (Same.tk s0), hW, begin_ok hW hS, by omega, h50, hns, hln⟩, fun v H' s1 tv => k v H' (Same.trans s0 s1) ?_⟩
    rw [tell_O]
    exact tv
end

def spOnward : Sp := fun vs H Q _ => ∃ (a x : V) (W : Wr) (o : Option (Nat × List Str)) (k S B kd n : Nat), vs = [a, x, .int kd] ∧ Tp H a W.d ∧ Tp H x (sitD o) ∧ WOk k S B W ∧ (∀ st ts, o = some (st, ts) → SOk S B n st ts) ∧ n ≤ 600000 ∧ B ≤ 50 ∧ kd < k ∧
  ∀ (v : V) H', Same H H' → Tp H' v (sitD (stepW W o kd)) → Q v H'
theorem sc_onward : FnScope ["writer", "situation", "kind", "entry", "recipe"] ["writer", "situation", "kind"] (fnScope st_law_onward) := fnScope_by (by decide +kernel)
theorem sc_lbehind : FnScope ["writer", "word", "situation", "kind"] ["writer", "word"] (fnScope st_law_behind) := fnScope_by (by decide +kernel)
section
variable {P : Program} {w : World} {K : PySem.W.Frag} {mg : Str → Option Value} {base : Heap} {f : Addr} {fd : FuncData}
theorem cal_onward (F : C8.Def K mg "_law_onward" st_law_onward f fd) (b : Binds K fd ["writer", "situation", "kind"] []) (B : BN2 mg) (Cm : Cal P w K mg base 1 "_law_made" spMade []) : Cal P w K mg base 2 "_law_onward" spOnward [] := by
  refine cal0 F b .nil sc_onward (fun vs H Q E h => ?_) (fun cdv A outer s H vs Q E hr h => ?_)
  · obtain ⟨a, x, W, o, k, S, B, kd, n, rfl, _⟩ := h
    rfl
  · obtain ⟨a, x, W, o, kk, S, Bf, kd, n, rfl, ha, hx, hW, ho, hn, h50, hk, k⟩ := h
    refine ⟨_, pss_cons (ps_if (pt_cmp (pc_isN (pv 1))) (pss_one (ps_ret pe_non)) pss_nil)
      (pss_cons (ps_set (i := 3) sc_onward.nd rfl (Or.inl rfl) (pe_ix ix_tup (pe_ix ix_tup (pe_ix ix_tup (pv 0) pe_int (fun _ _ => rfl)) (pe_ix ix_tup (pv 1) pe_int (fun _ _ => rfl)) (fun _ _ => rfl)) (pv 2) (fun _ _ => rfl)))
      (pss_cons (ps_if (pt_cmp (pc_isN (pv 3))) (pss_one (ps_ret pe_non)) pss_nil)
      (pss_one (ps_ret (pe_tup (pa_cons (pe_ix ix_tup (pv 3) pe_int (fun _ _ => rfl)) (pa_cons (pe_callTy call_tuple_of (by rfl) B.tuple (by decide +kernel) (pa_cons (pe_lc (own := [("recipe", 4)]) (g := gName 4) (tt := tYes) (by rfl) sc_onward.nd (pi_tup (pe_ix ix_tup (pv 3) pe_int (fun _ _ => rfl)))
        (blkOk_by (own := [("recipe", 4)]) (N := ["writer", "situation", "kind", "entry", "recipe"]) (sc := fnScope st_law_onward) (by decide +kernel)) (fun _ _ _ _ _ => pg_name (i := 4) sc_onward.nd rfl (Or.inl rfl)) (fun _ _ _ _ _ => pts_nil)
        (fun _ _ _ _ _ => pe_c Cm hr (by decide) (by rfl) (pa_cons (pv 4) (pa_cons (pe_ix (ix_tupK K) (pv 1) pe_int (fun _ _ => rfl)) pa_nil)))) pa_nil)) pa_nil))))))), ?_⟩
    refine ⟨_, rfl, _, rfl, ?_⟩
    cases o with
    | none =>
      obtain rfl := hx.non_inv
      exact iteT' (decide_eq_true rfl) (k _ _ (Same.refl H) .non)
    | some o =>
      obtain ⟨st, ts⟩ := o
      have so := ho st ts rfl
      obtain ⟨sa, sx, rfl, h1, h2⟩ := hx.tup_inv
      cases h2 with
      | @cons vst x1 _ _ u1 u2 =>
      cases u2 with
      | @cons vts x2 _ _ u3 u4 =>
      cases u4
      obtain rfl := u1.int_inv
      obtain ⟨wa, wx, rfl, w1, w2⟩ := ha.tup_inv
      cases w2 with
      | @cons vb x3 _ _ tb w3 =>
      cases w3 with
      | @cons vr x4 _ _ tr w4 =>
      obtain ⟨ra, rx, rfl, tr1, tr2⟩ := tr.tup_inv
      obtain ⟨row, en, g1, g2, g3, g4⟩ := ent_at hW so.st hk
      obtain ⟨rv, y1, y2⟩ := tr2.at g1
      obtain ⟨rwa, rws, rfl, y3, y4⟩ := y2.tup_inv
      obtain ⟨ev, y5, y6⟩ := y4.at g2
      have step : stepW W (some (st, ts)) kd = goE ts en := congrArg (goE ts) g3
      rw [step] at k
      refine iteF' (decide_eq_false (fun z => by cases z)) ?_
      refine ⟨_, rfl, wa, _, _, _, rfl, rfl, SqT.of w1, atI_nat (j := 1) rfl, _, rfl, sa, _, _, _, rfl, rfl, SqT.of h1, atI_nat (j := 0) rfl, ra, rx, _, _, rfl, rfl, SqT.of tr1, atI_nat y1, _, rfl, rwa, rws, _, _, rfl, rfl, SqT.of y3, atI_nat y5, ?_⟩
      refine ⟨_, rfl, _, rfl, ?_⟩
      cases en with
      | none =>
        obtain rfl := y6.non_inv
        exact iteT' (decide_eq_true rfl) (k _ _ (Same.refl H) .non)
      | some y =>
        obtain ⟨tg, fs⟩ := y
        obtain ⟨ea, es, rfl, y7, y8⟩ := y6.tup_inv
        cases y8 with
        | @cons vtg x9 _ _ z1 z2 =>
        cases z2 with
        | @cons vfs x10 _ _ z3 z4 =>
        cases z4
        obtain rfl := z1.int_inv
        obtain ⟨fa, fx, rfl, f1, f2⟩ := z3.tup_inv
        obtain ⟨g5, g6⟩ := g4 tg fs rfl
        refine iteF' (decide_eq_false (fun z => by cases z)) ?_
        refine ⟨_, rfl, ea, _, _, _, rfl, rfl, SqT.of y7, atI_nat (j := 0) rfl, ?_⟩
        refine ⟨_, rfl, ea, _, _, _, rfl, rfl, SqT.of y7, atI_nat (j := 1) rfl, fa, rfl, ⟨_, SqT.of f1⟩, fun D hD => ?_⟩
        have lenx : fx.length = fs.length := by rw [f2.len, List.length_map]
        refine lc_tup (K := K) (a := fa) (xs := fx) (fun i H' => Same H H' ∧ H' D = some (.lst (((fs.take i).map (mk ts)).map V.str))) ⟨same_new hD, upd_same⟩ (fun i H' _ h => SqT.of (h.1 _ _ f1)) ?_ ?_
        · rintro i x H1 hi ⟨s1, hL⟩
          have hlt : i < fs.length := by
            have := (List.getElem?_eq_some_iff.mp hi).1
            omega
          obtain ⟨v, hv, tv⟩ := f2.at (List.getElem?_eq_getElem hlt)
          rw [hi] at hv
          cases hv
          have mem := List.getElem_mem hlt
          have tot9 : tot ts ≤ 900000 := Nat.le_trans so.tot (Nat.le_trans hn (by decide))
          obtain ⟨m1, m2, m3⟩ := fills_one g6 so.len tot9 h50 mem
          refine ⟨rfl, ?_⟩
          refine ⟨_, rfl, _, rfl, sa, _, _, _, rfl, rfl, SqT.of (s1 _ _ h1), atI_nat (j := 1) rfl, x, vts, fs[i], ts, rfl, tv.mono (Same.tk s1), u3.mono (Same.tk s1), m1, m2, m3, fun H2 s2 => ?_⟩
          refine ⟨_, s2 _ _ hL, ?_, Same.put (Same.trans s1 s2) hD, ?_⟩
          · rw [List.length_map, List.length_map, List.length_take]
            exact Nat.lt_of_le_of_lt (Nat.le_trans (Nat.min_le_right _ _) (show fs.length ≤ 50 by rw [g6.len]; exact h50)) (by decide)
          · rw [upd_same, take_map_more (List.getElem?_eq_getElem hlt), List.map_append]
            rfl
        · rintro H1 ⟨s1, hL⟩
          rw [lenx, List.take_length] at hL
          refine ⟨D, _, rfl, .inl ⟨SqL.of hL, fun u hu => ⟨(by show 2 ≤ sizeLine; decide), fun q hq => ?_⟩⟩⟩
          refine k _ _ (Same.trans (Same.trans s1 (same_new hu)) (same_new hq)) (.tup upd_same (.cons (.int tg) (.cons (.tup ?_ (TpAll.map fun z _ => .str z)) .nil)))
          exact tk_new hq _ _ upd_same
theorem cal_lbehind (F : C8.Def K mg "_law_behind" st_law_behind f fd) (b : Binds K fd ["writer", "word"] []) (Co : Cal P w K mg base 2 "_law_onward" spOnward []) : Cal P w K mg base 3 "_law_behind" spBehind [] := by
  refine cal0 F b .nil sc_lbehind (fun vs H Q E h => ?_) (fun cdv A outer s H vs Q E hr h => ?_)
  · obtain ⟨a, t, W, ns, k, S, B, rfl, _⟩ := h
    rfl
  · obtain ⟨a, t, W, ns, kk, S, Bf, rfl, ha, ht, hW, hS, h50, hns, hln, k⟩ := h
    obtain ⟨a, xs, rfl, ha1, ha2⟩ := ha.tup_inv
    cases ha2 with
    | @cons vb x2 _ _ tb h2 =>
    obtain ⟨t, rfl, ht1⟩ := ht.word_inv
    refine ⟨_, pss_cons (ps_set (i := 2) sc_lbehind.nd rfl (Or.inl rfl) (pe_tup (pa_cons pe_int (pa_cons (pe_ix ix_tup (pv 0) pe_int (fun _ _ => rfl)) pa_nil))))
      (pss_cons (ps_for PassesOwn.never rfl (pi_tup (pv 1)) (pg_name (i := 3) sc_lbehind.nd rfl (Or.inl rfl))
        (pss_one (ps_set (i := 2) sc_lbehind.nd rfl (Or.inl rfl) (pe_c Co hr (by decide) (by rfl) (pa_cons (pv 0) (pa_cons (pv 2) (pa_cons (pv 3) pa_nil)))))))
      (pss_one (ps_ret (pv 2)))), ?_⟩
    refine ⟨_, rfl, a, _, _, _, rfl, rfl, SqT.of ha1, atI_nat (j := 0) rfl, (by show 2 ≤ sizeLine; decide), fun u hu => ?_⟩
    have s0 := same_new (o := .tup [.int 0, vb]) hu
    refine ⟨_, rfl, t, rfl, ⟨_, SqT.of (s0 _ _ ht1)⟩, for_tup (K := K) (a := t) (xs := (iN ns).map V.int) (fun i σ H' => Same H H' ∧ ∃ (x : V) (v3 : Option V), Tp H' x (sitD (runW W (ns.take i))) ∧ σ = [some (.ref a), some (.ref t), some x, v3])
      ⟨s0, .ref u, none, .tup upd_same (.cons (.int 0) (.cons (tb.mono (Same.tk s0)) .nil)), rfl⟩ (fun i σ H' _ h => SqT.of (h.1 _ _ ht1)) ?_ ?_⟩
    · rintro i x σ H1 hi ⟨s1, y, v3, ty, rfl⟩
      obtain ⟨kd, hkd, rfl⟩ : ∃ kd, ns[i]? = some kd ∧ x = V.int (kd : Nat) := by
        unfold iN at hi
        rw [List.map_map, List.getElem?_map] at hi
        cases e : ns[i]? with
        | none =>
          rw [e] at hi
          cases hi
        | some y =>
          rw [e] at hi
          exact ⟨y, rfl, (Option.some.inj hi).symm⟩
      have hk := hns kd (List.mem_of_getElem? hkd)
      have tl : (ns.take i).length ≤ 1000 := by rw [List.length_take]; omega
      refine ⟨_, rfl, _, rfl, _, rfl, .ref a, y, W, runW W (ns.take i), kk, S, Bf, kd, _, rfl, ha.mono (Same.tk s1), ty, hW, run_ok hW hS (fun j hj => hns j (List.mem_of_mem_take hj)), bound9 h50 tl, h50, hk, fun v H2 s2 tv => ⟨Same.trans s1 s2, v, _, ?_, rfl⟩⟩
      rw [run_more W hkd]
      exact tv
    · rintro σ H1 ⟨s1, y, v3, ty, rfl⟩
      have e : ((iN ns).map V.int).length = ns.length := by
        unfold iN
        rw [List.length_map, List.length_map]
      rw [e, List.take_length] at ty
      exact ⟨_, rfl, k _ _ s1 ty⟩
end

theorem sc_told : FnScope ["writer", "word", "situation"] ["writer", "word"] (fnScope st_law_told) := fnScope_by (by decide +kernel)
section
variable {P : Program} {w : World} {K : PySem.W.Frag} {mg : Str → Option Value} {base : Heap} {f : Addr} {fd : FuncData}
theorem cal_told (F : C8.Def K mg "_law_told" st_law_told f fd) (b : Binds K fd ["writer", "word"] []) (Cb : Cal P w K mg base 3 "_law_behind" spBehind []) (Cm : Cal P w K mg base 1 "_law_made" spMade []) : Cal P w K mg base 4 "_law_told" spTell [] := by
  refine cal0 F b .nil sc_told (fun vs H Q E h => ?_) (fun cdv A outer s H vs Q E hr h => ?_)
  · obtain ⟨a, t, W, ns, k, S, B, rfl, _⟩ := h
    rfl
  · obtain ⟨a, t, W, ns, kk, S, Bf, rfl, ha, ht, hW, hS, h50, hns, hln, k⟩ := h
    refine ⟨_, pss_cons (ps_set (i := 2) sc_told.nd rfl (Or.inl rfl) (pe_c Cb hr (by decide) (by rfl) (pa_cons (pv 0) (pa_cons (pv 1) pa_nil))))
      (pss_cons (ps_if (PW.pt (pw_or (pt_cmp (pc_isN (pv 2))) (pw_or1 (pt_cmp (pc_isN (pe_ix ix_tup (pe_ix ix_tup (pv 0) pe_int (fun _ _ => rfl)) (pe_ix ix_tup (pv 2) pe_int (fun _ _ => rfl)) (fun _ _ => rfl))))))) (pss_one (ps_ret pe_non)) pss_nil)
      (pss_one (ps_ret (pe_c Cm hr (by decide) (by rfl) (pa_cons (pe_ix ix_tup (pe_ix ix_tup (pv 0) pe_int (fun _ _ => rfl)) (pe_ix ix_tup (pv 2) pe_int (fun _ _ => rfl)) (fun _ _ => rfl)) (pa_cons (pe_ix ix_tup (pv 2) pe_int (fun _ _ => rfl)) pa_nil)))))), ?_⟩
    refine ⟨_, rfl, _, rfl, a, t, W, ns, kk, S, Bf, rfl, ha, ht, hW, hS, h50, hns, hln, fun sv H1 s1 tsv => ?_⟩
    refine ⟨_, rfl, _, rfl, ?_⟩
    cases er : runW W ns with
    | none =>
      rw [er] at tsv
      obtain rfl := tsv.non_inv
      refine iteT' (decide_eq_true rfl) (iteT (k _ _ s1 ?_))
      rw [tell_none er]
      exact .non
    | some o =>
      obtain ⟨st, ts⟩ := o
      rw [er] at tsv
      obtain ⟨sa, sx, rfl, h1, h2⟩ := tsv.tup_inv
      cases h2 with
      | @cons vst x1 _ _ u1 u2 =>
      cases u2 with
      | @cons vts x2 _ _ u3 u4 =>
      cases u4
      obtain rfl := u1.int_inv
      have so := run_ok hW hS hns st ts er
      obtain ⟨e, e1, e2, e3⟩ := end_at hW so.st
      obtain ⟨wa, wx, rfl, w1, w2⟩ := ha.tup_inv
      cases w2 with
      | @cons vb x3 _ _ tb w3 =>
      cases w3 with
      | @cons vr x4 _ _ tr w4 =>
      cases w4 with
      | @cons ve x5 _ _ te w5 =>
      cases w5
      obtain ⟨ea, ex, rfl, w6, w7⟩ := te.tup_inv
      obtain ⟨ev, w8, w9⟩ := w7.at e1
      refine iteF' (decide_eq_false (fun z => by cases z)) ?_
      refine ⟨_, rfl, wa, _, _, _, rfl, rfl, SqT.of (s1 _ _ w1), atI_nat (j := 2) rfl, _, rfl, sa, _, _, _, rfl, rfl, SqT.of h1, atI_nat (j := 0) rfl, ea, ex, _, _, rfl, rfl, SqT.of (s1 _ _ w6), atI_nat w8, _, rfl, ?_⟩
      cases e with
      | none =>
        obtain rfl := w9.non_inv
        refine iteT' (decide_eq_true rfl) (k _ _ s1 ?_)
        rw [tell_some er, e2]
        exact .non
      | some r =>
        obtain ⟨g1, g2, g3⟩ := end_fits so (e3 r rfl) (bound9 h50 hln)
        have ne : ev ≠ .non := by
          obtain ⟨ra, rx, rfl, _⟩ := w9.tup_inv
          intro z
          cases z
        refine iteF' (decide_eq_false ne) ?_
        refine ⟨_, rfl, wa, _, _, _, rfl, rfl, SqT.of (s1 _ _ w1), atI_nat (j := 2) rfl, _, rfl, sa, _, _, _, rfl, rfl, SqT.of h1, atI_nat (j := 0) rfl, ea, ex, _, _, rfl, rfl, SqT.of (s1 _ _ w6), atI_nat w8, ?_⟩
        refine ⟨_, rfl, sa, _, _, _, rfl, rfl, SqT.of h1, atI_nat (j := 1) rfl, ev, vts, r, ts, rfl, w9.mono (Same.tk s1), u3, g1, g2, g3, fun H2 s2 => k _ _ (Same.trans s1 s2) ?_⟩
        rw [tell_some er, e2]
        exact .str _
end

/-! ### all words, in their order -/
def nextW (k : Nat) (lv : List (List Nat)) : List (List Nat) := lv.flatMap fun w => (List.range k).map fun j => w ++ [j]
def levelW (k : Nat) : Nat → List (List Nat)
  | 0 => [[]]
  | i + 1 => nextW k (levelW k i)
def wordsW (k : Nat) : Nat → List (List Nat)
  | 0 => [[]]
  | m + 1 => wordsW k m ++ levelW k (m + 1)
theorem wordsW_le (k : Nat) {i m : Nat} (h : i ≤ m) : (wordsW k i).length ≤ (wordsW k m).length := by
  induction m with
  | zero =>
    have : i = 0 := by omega
    rw [this]
    exact Nat.le_refl _
  | succ m ih =>
    by_cases e : i = m + 1
    · rw [e]
      exact Nat.le_refl _
    · have := ih (by omega)
      show _ ≤ (wordsW k m ++ levelW k (m + 1)).length
      rw [List.length_append]
      omega
theorem levelW_le (k : Nat) {i m : Nat} (h : i ≤ m) : (levelW k i).length ≤ (wordsW k m).length := by
  refine Nat.le_trans ?_ (wordsW_le k h)
  cases i with
  | zero => exact Nat.le_refl _
  | succ i =>
    show _ ≤ (wordsW k i ++ levelW k (i + 1)).length
    rw [List.length_append]
    omega
theorem levelW_mem (k : Nat) : ∀ (i : Nat) (w : List Nat), w ∈ levelW k i → w.length = i ∧ ∀ x ∈ w, x < k
  | 0, w, h => by
    obtain rfl := List.mem_singleton.mp h
    exact ⟨rfl, fun x hx => by cases hx⟩
  | i + 1, w, h => by
    obtain ⟨u, h1, h2⟩ := List.mem_flatMap.mp h
    obtain ⟨j, h3, rfl⟩ := List.mem_map.mp h2
    obtain ⟨e1, e2⟩ := levelW_mem k i u h1
    refine ⟨by rw [List.length_append, e1]; rfl, fun x hx => ?_⟩
    rcases List.mem_append.mp hx with hx | hx
    · exact e2 x hx
    · obtain rfl := List.mem_singleton.mp hx
      exact List.mem_range.mp h3
theorem wordsW_mem (k : Nat) : ∀ (m : Nat) (w : List Nat), w ∈ wordsW k m → w.length ≤ m ∧ ∀ x ∈ w, x < k
  | 0, w, h => by
    obtain ⟨h1, h2⟩ := levelW_mem k 0 w h
    exact ⟨Nat.le_of_eq h1, h2⟩
  | m + 1, w, h => by
    rcases List.mem_append.mp (show w ∈ wordsW k m ++ levelW k (m + 1) from h) with h | h
    · obtain ⟨h1, h2⟩ := wordsW_mem k m w h
      exact ⟨Nat.le_succ_of_le h1, h2⟩
    · obtain ⟨h1, h2⟩ := levelW_mem k (m + 1) w h
      exact ⟨Nat.le_of_eq h1, h2⟩
theorem nextW_take (k : Nat) {lv : List (List Nat)} {i : Nat} {w : List Nat} (h : lv[i]? = some w) : nextW k (lv.take (i + 1)) = nextW k (lv.take i) ++ (List.range k).map fun j => w ++ [j] := by
  unfold nextW
  rw [List.take_add_one, h, List.flatMap_append]
  show _ ++ List.flatMap _ [w] = _
  rw [List.flatMap_cons, List.flatMap_nil, List.append_nil]
theorem nextW_take_le (k : Nat) (lv : List (List Nat)) (i : Nat) : (nextW k (lv.take i)).length ≤ (nextW k lv).length := by
  have e : nextW k lv = nextW k (lv.take i) ++ nextW k (lv.drop i) := by
    unfold nextW
    rw [← List.flatMap_append, List.take_append_drop]
  rw [e, List.length_append]
  omega
def spWords : Sp := fun vs H Q _ => ∃ k m : Nat, vs = [.int k, .int m] ∧ k ≤ 1000 ∧ m ≤ 1000 ∧ (wordsW k m).length ≤ 5000 ∧
  ∀ (a : Addr) H', Same H H' → H a = none → LAt H' a ((wordsW k m).map wordD) → Q (.ref a) H'
def nWords : List Str := ["count", "most", "level", "found", "lap", "longer", "word", "kind"]
theorem sc_words : FnScope nWords ["count", "most"] (fnScope st_law_words) := fnScope_by (by decide +kernel)
theorem LAt.look {H : Hp} {a : Addr} {ds : List PyData} (h : LAt H a ds) : ∃ vs, H a = some (.lst vs) ∧ TpAll H vs ds := h
section
variable {P : Program} {w : World} {K : PySem.W.Frag} {mg : Str → Option Value} {base : Heap} {f : Addr} {fd : FuncData}
theorem cal_words (F : C8.Def K mg "_law_words" st_law_words f fd) (b : Binds K fd ["count", "most"] []) (B : BN2 mg) : Cal P w K mg base 1 "_law_words" spWords [] := by
  refine cal0 F b .nil sc_words (fun vs H Q E h => ?_) (fun cdv A outer s H vs Q E hr h => ?_)
  · obtain ⟨k, m, rfl, _⟩ := h
    rfl
  · obtain ⟨kk, m, rfl, k1000, m1000, few, k⟩ := h
    refine ⟨_, pss_cons (ps_par (i := 2) (j := 3) rfl sc_words.nd rfl rfl (by decide) rfl rfl (pa_cons (pe_lst (pa_cons (pe_tup pa_nil) pa_nil)) (pa_cons (pe_lst (pa_cons (pe_tup pa_nil) pa_nil)) pa_nil)) (by rfl))
      (pss_cons (ps_for PassesOwn.never rfl (pi_range1 rfl B.range (pa_cons (pv 1) pa_nil)) (pg_name (i := 4) sc_words.nd rfl (Or.inl rfl))
        (pss_cons (ps_set (i := 5) sc_words.nd rfl (Or.inl rfl) (pe_lst pa_nil))
        (pss_cons (ps_for PassesOwn.never rfl (pi_list (pv 2)) (pg_name (i := 6) sc_words.nd rfl (Or.inr rfl))
          (pss_one (ps_set (i := 5) sc_words.nd rfl (Or.inl rfl) (pe_op op_cat (pv 5) (pe_lc (own := [("kind", 7)]) (g := gName 7) (tt := tYes) (by rfl) sc_words.nd (pi_range1 rfl B.range (pa_cons (pv 0) pa_nil))
            (blkOk_by (own := [("kind", 7)]) (N := nWords) (sc := fnScope st_law_words) (by decide +kernel)) (fun _ _ _ _ _ => pg_name (i := 7) sc_words.nd rfl (Or.inl rfl)) (fun _ _ _ _ _ => pts_nil)
            (fun _ _ _ _ _ => pe_op (op_catAK K) (pv 6) (pe_tup (pa_cons (pv 7) pa_nil))))))))
        (pss_cons (ps_set (i := 2) sc_words.nd rfl (Or.inl rfl) (pv 5))
        (pss_one (ps_set (i := 3) sc_words.nd rfl (Or.inl rfl) (pe_op op_cat (pv 3) (pv 2))))))))
      (pss_one (ps_ret (pv 3)))), ?_⟩
    refine ⟨Nat.zero_le _, fun e1 he1 => ⟨(by show 1 ≤ sizeLine; decide), fun l1 hl1 => ⟨Nat.zero_le _, fun e2 he2 => ⟨(by show 1 ≤ sizeLine; decide), fun l2 hl2 => ⟨_, _, rfl, ?_⟩⟩⟩⟩⟩
    have sA : Same H (upd (upd (upd (upd H e1 (.tup [])) l1 (.lst [.ref e1])) e2 (.tup [])) l2 (.lst [.ref e2])) := Same.trans (Same.trans (Same.trans (same_new he1) (same_new hl1)) (same_new he2)) (same_new hl2)
    have L1 : LAt (upd (upd (upd (upd H e1 (.tup [])) l1 (.lst [.ref e1])) e2 (.tup [])) l2 (.lst [.ref e2])) l1 ((levelW kk 0).map wordD) := by
      have z : LAt (upd (upd H e1 (.tup [])) l1 (.lst [.ref e1])) l1 ((levelW kk 0).map wordD) := ⟨_, upd_same, .cons (.tup (tk_new hl1 _ _ upd_same) .nil) .nil⟩
      exact (z.same (same_new he2)).same (same_new hl2)
    have L2' : LAt (upd (upd (upd (upd H e1 (.tup [])) l1 (.lst [.ref e1])) e2 (.tup [])) l2 (.lst [.ref e2])) l2 ((wordsW kk 0).map wordD) := ⟨_, upd_same, .cons (.tup (tk_new hl2 _ _ upd_same) .nil) .nil⟩
    have l20 : H l2 = none := (Same.trans (Same.trans (same_new he1) (same_new hl1)) (same_new he2)).free hl2
    generalize upd (upd (upd (upd H e1 (.tup [])) l1 (.lst [.ref e1])) e2 (.tup [])) l2 (.lst [.ref e2]) = H1 at sA L1 L2' ⊢
    clear hl2 he2 hl1 he1
    refine ⟨_, rfl, m, rfl, by omega, by omega, for_range (n := (m : Int).toNat) (fun i σ H' => (∃ (lv fo : Addr) (v4 v5 v6 : Option V), σ = [some (.int kk), some (.int m), some (.ref lv), some (.ref fo), v4, v5, v6, none] ∧ LAt H' lv ((levelW kk i).map wordD) ∧ H fo = none ∧ LAt H' fo ((wordsW kk i).map wordD)) ∧ Same H H')
      ⟨⟨l1, l2, _, _, _, rfl, L1, l20, L2'⟩, sA⟩ ?_ ?_⟩
    · rintro i σ H2 hi ⟨⟨lv, fo, v4, v5, v6, rfl, Ll, fo0, Lf⟩, s2⟩
      have him : i + 1 ≤ m := by omega
      obtain ⟨vs, hv, av⟩ := Ll
      refine ⟨Nat.zero_le _, fun q hq => ?_⟩
      have s3 := same_new (o := .lst []) hq
      refine ⟨_, rfl, lv, rfl, ⟨_, SqL.of (s3 _ _ hv)⟩, for_list (K := K) (a := lv) (xs := vs) (fun j σ H' => Same H2 H' ∧ ∃ (lo : Addr) (v6 : Option V), σ = [some (.int kk), some (.int m), some (.ref lv), some (.ref fo), some (.int (0 + (i : Int))), some (.ref lo), v6, none] ∧ H2 lo = none ∧ LAt H' lo ((nextW kk ((levelW kk i).take j)).map wordD))
        ⟨s3, q, v6, rfl, hq, [], upd_same, .nil⟩ (fun j σ H' _ h => SqL.of (h.1 _ _ hv)) ?_ ?_⟩
      · rintro j x σ H3 hj ⟨s4, lo, v6, rfl, lo0, Lo⟩
        have jlt : j < (levelW kk i).length := by
          have := (List.getElem?_eq_some_iff.mp hj).1
          rw [av.len, List.length_map] at this
          exact this
        obtain ⟨x', hx', tx⟩ := av.at (List.getElem?_eq_getElem jlt)
        rw [hj] at hx'
        cases hx'
        obtain ⟨wa, rfl, hwa⟩ := tx.word_inv
        obtain ⟨wl, _⟩ := levelW_mem kk i _ (List.getElem_mem jlt)
        generalize hw : (levelW kk i)[j] = wd at *
        obtain ⟨us, hu, au⟩ := Lo
        refine ⟨_, rfl, _, rfl, kk, rfl, by omega, by omega, fun D hD => ?_⟩
        refine lc_range (lo := 0) (n := (kk : Int).toNat) (fun g H' => Same H3 H' ∧ LAt H' D (((List.range g).map fun y => wd ++ [y]).map wordD)) ⟨same_new hD, [], upd_same, .nil⟩ ?_ ?_
        · rintro g H4 hg ⟨s5, zs, hz, az⟩
          have s45 := Same.trans s4 s5
          refine ⟨rfl, _, rfl, _, rfl, (by show 1 ≤ sizeLine; decide), fun u hu' => ?_⟩
          have wl' : ((iN wd).map V.int).length ≤ 1000 := by
            unfold iN
            rw [List.length_map, List.length_map, wl]
            omega
          have hz5 : upd H4 u (.tup [.int (0 + (g : Int))]) D = some (.lst zs) := by
            rw [upd_ne (ne_of_none hz hu')]
            exact hz
          have zlen : zs.length < sizeLine := by
            rw [az.len, List.length_map, List.length_map, List.length_range]
            exact Nat.lt_of_lt_of_le (show g < 1001 by omega) (by decide)
          have more : ((List.range (g + 1)).map fun y => wd ++ [y]).map wordD = ((List.range g).map fun y => wd ++ [y]).map wordD ++ [wordD (wd ++ [g])] := by
            rw [List.range_succ, List.map_append, List.map_append]
            rfl
          have e0 : (0 + (g : Int)) = (g : Int) := Int.zero_add _
          refine ⟨wa, u, _, _, rfl, rfl, SqT.of (same_new hu' _ _ (s45 _ _ hwa)), SqT.of upd_same, Nat.le_trans (Nat.add_le_add wl' (Nat.le_refl 1)) (by decide), fun en => ?_, fun _ en => absurd en (by simp), fun nn _ p hp => ?_⟩
          · refine ⟨zs, hz5, zlen, Same.put (Same.trans s5 (same_new hu')) hD, ?_⟩
            rw [more]
            refine LAt.push hz5 (az.mono (tk_new hu')) (tp_word ?_)
            rw [upd_same, iN_app, en, e0]
            rfl
          · have hz6 : upd (upd H4 u (.tup [.int (0 + (g : Int))])) p (.tup ((iN wd).map V.int ++ [.int (0 + (g : Int))])) D = some (.lst zs) := by
              rw [upd_ne (ne_of_none hz5 hp)]
              exact hz5
            refine ⟨zs, hz6, zlen, Same.put (Same.trans (Same.trans s5 (same_new hu')) (same_new hp)) hD, ?_⟩
            rw [more]
            refine LAt.push hz6 ((az.mono (tk_new hu')).mono (tk_new hp)) (tp_word ?_)
            rw [upd_same, iN_app, e0]
        · rintro H4 ⟨s5, zs, hz, az⟩
          have l1 : us.length ≤ 5000 := by
            rw [au.len, List.length_map]
            exact Nat.le_trans (nextW_take_le kk _ j) (Nat.le_trans (levelW_le kk (i := i + 1) him) few)
          have l2 : zs.length ≤ 1000 := by
            rw [az.len, List.length_map, List.length_map, List.length_range]
            omega
          refine ⟨lo, D, us, zs, rfl, rfl, s5 _ _ hu, hz, Nat.le_trans (Nat.add_le_add l1 l2) (by decide), fun p hp => ?_⟩
          refine ⟨Same.trans (Same.trans s4 s5) (same_new hp), p, _, rfl, (Same.trans s4 s5).free hp, us ++ zs, upd_same, ?_⟩
          have e : nextW kk ((levelW kk i).take (j + 1)) = nextW kk ((levelW kk i).take j) ++ (List.range kk).map fun y => wd ++ [y] := nextW_take kk (by rw [List.getElem?_eq_getElem jlt, hw])
          rw [e, List.map_append]
          exact (((au.mono (Same.tk s5)).app az)).mono (tk_new hp)
      · rintro σ H3 ⟨s4, lo, v6', rfl, lo0, Lo⟩
        have e : vs.length = (levelW kk i).length := by rw [av.len, List.length_map]
        rw [e, List.take_length] at Lo
        refine ⟨_, rfl, ?_⟩
        obtain ⟨us, hu, au⟩ := Lo
        obtain ⟨fs, hf, af⟩ := Lf.same s4
        have l1 : us.length ≤ 5000 := by
          rw [au.len, List.length_map]
          exact Nat.le_trans (levelW_le kk (i := i + 1) him) few
        have l2 : fs.length ≤ 5000 := by
          rw [af.len, List.length_map]
          exact Nat.le_trans (wordsW_le kk (i := i) (by omega)) few
        refine ⟨_, rfl, _, rfl, fo, lo, fs, us, rfl, rfl, hf, hu, Nat.le_trans (Nat.add_le_add l2 l1) (by decide), fun p hp => ?_⟩
        have s5 := Same.trans s2 s4
        refine ⟨⟨lo, p, _, _, _, rfl, LAt.same ⟨us, hu, au⟩ (same_new hp), s5.free hp, fs ++ us, upd_same, ?_⟩, Same.trans s5 (same_new hp)⟩
        show TpAll _ _ ((wordsW kk i ++ levelW kk (i + 1)).map wordD)
        rw [List.map_append]
        exact (af.app au).mono (tk_new hp)
    · rintro σ H2 ⟨⟨lv, fo, v4, v5, v6, rfl, Ll, fo0, Lf⟩, s2⟩
      exact ⟨_, rfl, k fo _ s2 fo0 Lf⟩
end

/-! ### () * k is () itself -/
section
open PySem.Spec PyProof.Rows
theorem mul_of_empty (l : Addr) (n : Nat) (dd : Option Addr) (sl : Array (Option Value)) (x : Int) (u : Tok) (small : (decide (x < -(2 ^ 63)) || decide (x ≥ 2 ^ 63)) = false) :
    Meets (Builtin.«tuple.__mul__» ⟨[.ref l, .int x u], []⟩) (fun _ R s => s.heap.get? l = some { cls := .type "tuple", dict := dd, data := .seq #[] n, slots := sl } ∧ R (.ok (.ret (Value.ref l))) s) :=
  .of_wp fun _ _ _ _ s h => by
    obtain ⟨heap, gs, dr, tk, os⟩ := s
    obtain ⟨look, fin⟩ := h
    have f1 := AutoSeq1.idx_int
    (wp_walk using wpAny_loadPart' look)
    repeat (first
      | (refine wpAny_ite_false (decide_eq_false (by rw [small]; exact Bool.false_ne_true)) ?_; (wp_walk using wpAny_loadPart' look))
      | (refine wpAny_ite_true (decide_eq_true rfl) ?_; (wp_walk using wpAny_loadPart' look)))
    exact ⟨_, rfl, fin⟩
def rRep0 (K : PySem.W.Frag) : R2 := fun x y H Q => ∃ (l : Addr) (k : Int), x = .ref l ∧ y = .int k ∧ SqT K H l [] ∧ 2 ≤ k ∧ k ≤ 1000 ∧ Q (.ref l) H
theorem op_rep0 {X : Cx} : OpR X (binaryOp .Mult) (rRep0 X.K) := by
  intro pins s σ H x y v u Q I rx ry given
  obtain ⟨l, k, rfl, rfl, hT, h1, h2, q⟩ := given
  cases rx
  obtain ⟨t, rfl⟩ := ry
  obtain ⟨_, r, ⟨⟨cl, dd, da, sl⟩, ho, hc, n, hd⟩, _⟩ := I.tuple hT
  cases r
  simp only at hc hd
  subst hc hd
  have small : (decide (k < -(2 ^ 63)) || decide (k ≥ 2 ^ 63)) = false := by
    rw [decide_eq_false (by omega), decide_eq_false (by omega), Bool.or_false]
  exact wpAny_binaryOp_repeat_ref (T := "tuple") (U := "int") (by decide) ⟨_, ho, rfl⟩ (fun s' => typeIs_int s' k t) noFill_tuple_mul F.fills_int_mul F.slot_int_rmul repeat_tuple F.slot_int_index.lookup
    (call_meets F.slot_int_rmul (typeIs_int s k t) F.entry_int_rmul (F.args_int_rmul_2 _ _) (int_rmul_tuple k t l #[] n dd sl)
      ⟨ho, rfl, ⟨_, ho, rfl⟩, call_meets F.slot_tuple_mul ⟨_, ho, rfl⟩ F.entry_tuple_mul (F.args_tuple_mul_2 _ _) (mul_of_empty l n dd sl k t small) ⟨ho, .ref l, H, I, rfl, q⟩⟩)
end
theorem rep_words (n : Nat) (ns : List Nat) : (List.replicate n ((iN ns).map V.int)).flatten = (iN (List.replicate n ns).flatten).map V.int := by
  induction n with
  | zero => rfl
  | succ n ih =>
    rw [List.replicate_succ, List.flatten_cons, ih, List.replicate_succ, List.flatten_cons]
    unfold iN
    rw [List.map_append, List.map_append]

/-! ### writers, situations, texts may be shown -/
theorem part_len {z : Str} : ∀ {r : Rc}, .s z ∈ r → z.length ≤ lets r
  | q :: r, h => by
    have e : lets (q :: r) = q.let + lets r := by
      unfold lets
      rw [List.map_cons, List.sum_cons]
    rw [e]
    rcases List.mem_cons.mp h with rfl | h
    · exact Nat.le_add_right _ _
    · have := part_len h
      omega
theorem flat_lt {fs : List Rc} {r : Rc} {n : Nat} (h : ∀ i ∈ fs.flatMap bufs, i < n) (hr : r ∈ fs) : ∀ i ∈ bufs r, i < n := fun i hi => h i (List.mem_flatMap.mpr ⟨r, hr, hi⟩)
theorem neat_rc {r : Rc} {n : Nat} (h : ROk r) (hb : ∀ i ∈ bufs r, i < n) (hn : n ≤ 1000) : Neat 1 205 r.d := by
  have e : NeatAll 0 (r.length * (40 + 1)) (r.map Pt.d) := neatAll_map fun q hq => by
    cases q with
    | s z =>
      have a := part_len hq
      have b := h.lt
      exact (neat_str (low_strOk (h.low _ hq))).le (Nat.le_refl _) (by omega)
    | b i =>
      have := hb i (List.mem_flatMap.mpr ⟨_, hq, List.mem_singleton.mpr rfl⟩)
      exact neat_int (by omega)
  have l := h.len
  exact (e.tup).le (Nat.le_refl _) (by omega)
theorem neat_rcE {r : Rc} {n : Nat} (h : ROkE r) (hb : ∀ i ∈ bufs r, i < n) (hn : n ≤ 1000) : Neat 1 246 r.d := by
  have e : NeatAll 0 (r.length * (40 + 1)) (r.map Pt.d) := neatAll_map fun q hq => by
    cases q with
    | s z =>
      have a := part_len hq
      have b := h.lt
      exact (neat_str (low_strOk (h.low _ hq))).le (Nat.le_refl _) (by omega)
    | b i =>
      have := hb i (List.mem_flatMap.mpr ⟨_, hq, List.mem_singleton.mpr rfl⟩)
      exact neat_int (by omega)
  have l := h.len
  exact (e.tup).le (Nat.le_refl _) (by omega)
theorem neat_ent {S B : Nat} {e : Option (Nat × List Rc)} (h : EntOk S B e) (hS : S ≤ 12) (hB : B ≤ 3) : Neat 3 700 (entD e) := by
  cases e with
  | none => exact neat_none.le (by decide) (by decide)
  | some x =>
    obtain ⟨t, fs⟩ := x
    obtain ⟨h1, h2⟩ := h t fs rfl
    have a : NeatAll 1 (fs.length * (205 + 1)) (fs.map Rc.d) := neatAll_map fun r hr => neat_rc (h2.each r hr) (flat_lt h2.lt hr) (by omega)
    have b : NeatAll 2 _ [.int (t : Int), fillsD fs] := NeatAll.cons ((neat_int (i := (t : Int)) (by omega)).le (by decide) (Nat.le_refl _)) (NeatAll.cons a.tup neatAll_nil)
    have l := h2.len
    exact b.tup.le (Nat.le_refl _) (by omega)
theorem neat_W {k S B : Nat} {W : Wr} (h : WOk k S B W) (hk : k ≤ 4) (hS : S ≤ 12) (hB : B ≤ 3) : Neat 6 40000 W.d := by
  have a : NeatAll 0 (W.begins.length * (2 + 1)) (W.begins.map .str) := neatAll_map fun z hz => (neat_str (low_strOk (h.b2 z hz).low)).le (Nat.le_refl _) (h.b2 z hz).len
  have b : NeatAll 4 (W.rules.length * (2804 + 1)) (W.rules.map rowD) := neatAll_map fun row hrow => by
    obtain ⟨r1, r2⟩ := h.r2 row hrow
    have c : NeatAll 3 (row.length * (700 + 1)) (row.map entD) := neatAll_map fun e he => neat_ent (r2 e he) hS hB
    exact c.tup.le (Nat.le_refl _) (by omega)
  have c : NeatAll 1 (W.ends.length * (246 + 1)) (W.ends.map endD) := neatAll_map fun e he => by
    cases e with
    | none => exact neat_none.le (by decide) (by decide)
    | some r =>
      have q := h.e2 _ he r rfl
      exact neat_rcE q.ok q.lt (by omega)
  have all : NeatAll 5 _ [.tuple (W.begins.map .str), .tuple (W.rules.map rowD), .tuple (W.ends.map endD)] :=
    NeatAll.cons (a.tup.le (by decide) (Nat.le_refl _)) (NeatAll.cons (b.tup.le (by decide) (Nat.le_refl _)) (NeatAll.cons (c.tup.le (by decide) (Nat.le_refl _)) neatAll_nil))
  have l1 := h.b1
  have l2 := h.r1
  have l3 := h.e1
  exact all.tup.le (Nat.le_refl _) (by omega)

theorem neat_texts : ∀ {ts : List Str}, lowT ts → NeatAll 0 (tot ts + ts.length) (ts.map .str)
  | [], _ => neatAll_nil
  | z :: r, h => by
    have a := neat_texts (ts := r) fun y hy => h y (List.mem_cons_of_mem _ hy)
    have b := NeatAll.cons (neat_str (low_strOk (h z List.mem_cons_self))) a
    refine b.le (Nat.le_refl _) ?_
    unfold tot
    rw [List.map_cons, List.sum_cons, List.length_cons]
    omega
theorem neat_sit {o : Option (Nat × List Str)} {S B n : Nat} (h : ∀ st ts, o = some (st, ts) → SOk S B n st ts) (hn : n ≤ 600000) (hB : B ≤ 50) (hS : S ≤ 1000) : Neat 2 700000 (sitD o) := by
  cases o with
  | none => exact neat_none.le (by decide) (by decide)
  | some x =>
    obtain ⟨st, ts⟩ := x
    have so := h st ts rfl
    have a := NeatAll.cons ((neat_int (i := (st : Int)) (by have := so.st; omega)).le (show 0 ≤ 1 by decide) (Nat.le_refl _)) (NeatAll.cons (neat_texts so.low).tup neatAll_nil)
    have b := so.tot
    have c := so.len
    exact a.tup.le (Nat.le_refl _) (by omega)
theorem neat_txt {k S B : Nat} {W : Wr} (h : WOk k S B W) (hS : 1 ≤ S) (hB : B ≤ 50) {ns : List Nat} (hns : ∀ i ∈ ns, i < k) (hl : ns.length ≤ 1000) : Neat 0 700000 (txtD (tellW W ns)) := by
  cases er : runW W ns with
  | none =>
    rw [tell_none er]
    exact neat_none.le (by decide) (by decide)
  | some o =>
    obtain ⟨st, ts⟩ := o
    have so := run_ok h hS hns st ts er
    obtain ⟨e, e1, e2, e3⟩ := end_at h so.st
    rw [tell_some er, e2]
    cases e with
    | none => exact neat_none.le (by decide) (by decide)
    | some r =>
      have q := e3 r rfl
      refine (neat_str (low_strOk (mk_low so.low q.ok.low))).le (Nat.le_refl _) ?_
      have a := mk_end q so.len
      have b := so.tot
      have c := bound9 hB hl
      show (mk ts r).length ≤ 700000
      omega

/-! ### enumerate over a tuple -/
namespace ET
open PySem PySem.Spec PyProof.Rows L2
open PySem.Sem (wp)
theorem draws_tuple {prog : Program} {w : World} {A : Around} (hh : A.handled = none) (it l : Addr) (hne : l ≠ it) (items : Array Value) :
    Draws prog w A it [it, l] items.size (fun i v => items[i]? = some v) (fun i h => h.IsTupleIter it l i ∧ h.IsTuple l items) where
  live := fun _ _ st => let ⟨o, ho, _⟩ := st.1; ⟨o, ho⟩
  frame := fun _ _ _ st hk => ⟨st.1.at fun o e => hk it (by simp) o e, let ⟨o, ho, r⟩ := st.2; ⟨o, hk l (by simp) o ho, r⟩⟩
  item := fun i s Q E hi st hQ => by
    refine RZ.nextOf_tuple_item st.1 st.2 (x := items[i]) (by simp [hi]) fun h' hit' hs' => ?_
    exact hQ _ h' s.toks (by simp [hi]) ⟨hit', st.2.extBut hs'.extBut hne⟩ hs'
  done := fun s Q E st hE => RZ.nextOf_tuple_end hh st.1 st.2 (by simp) hE
theorem meets_new (l : Addr) (items : Array Value) :
    Meets (Builtin.«enumerate.__new__» ⟨[.type "enumerate", .ref l], []⟩) (fun _ R s => s.heap.IsTuple l items ∧
      R (.ok (.ret (.ref (s.heap.push { cls := .type "tuple_iterator", data := .fields #[.ref l, .int 0 0] }).objs.size)))
        { s with heap := (s.heap.push { cls := .type "tuple_iterator", data := .fields #[.ref l, .int 0 0] }).push { cls := .type "enumerate", data := .fields #[.none, .bool false, .ref s.heap.objs.size, rawInt 0, .none, .none] } }) :=
  .of_wp fun prog w A R s h => by
    obtain ⟨hp, g, d, tk, os⟩ := s; obtain ⟨hl, h⟩ := h
    have hsub := sub_enumerate
    have hL : Heap.IsTuple (Shared.heap ⟨hp, g, d, tk, os⟩) l items := hl
    wp_walk using wpAny_pyIter_tuple hL
    refine wpAny_stack_any fun st => wpAny_pure ?_
    split
    · rename_i c _ _ _ _ _
      cases (c == Value.type "enumerate")
      · wp_walk using wpAny_pyIter_tuple hL
        exact ⟨_, rfl, h⟩
      · wp_walk using wpAny_pyIter_tuple hL
        exact ⟨_, rfl, h⟩
    · wp_walk using wpAny_pyIter_tuple hL
      exact ⟨_, rfl, h⟩
theorem call_enumT {prog : Program} {w : World} {A : Around} {E : Value → Shared → Prop} {s : Shared} {l : Addr} {items : Array Value} {Q : Value → Shared → Prop} (hL : s.heap.IsTuple l items)
    (h : ∀ h', IsEnum h' (s.heap.objs.size + 1) s.heap.objs.size 0 .none → h'.IsTupleIter s.heap.objs.size l 0 → h'.objs.size = s.heap.objs.size + 2 →
      (∀ b o, s.heap.get? b = some o → h'.get? b = some o) → Q (.ref (s.heap.objs.size + 1)) { s with heap := h' }) :
    wpAny (model prog w) A (call (.type "enumerate") [.ref l]) Q E s := by
  refine callType_new F.called_enumerate (by decide) (F.typeCall_enumerate_1 _) (F.newCall_enumerate_1 _) (fun obj => F.args_object_init_2 obj _) F.entry_enumerate_new
    (meets_new l items) ⟨hL, ?_⟩
  have hz : (s.heap.push { cls := .type "tuple_iterator", data := .fields #[.ref l, .int 0 0] }).objs.size = s.heap.objs.size + 1 := Heap.size_push ..
  show _ ∧ _
  rw [hz]
  have he : IsEnum ((s.heap.push { cls := .type "tuple_iterator", data := .fields #[.ref l, .int 0 0] }).push
      { cls := .type "enumerate", data := .fields #[.none, .bool false, .ref s.heap.objs.size, rawInt 0, .none, .none] }) (s.heap.objs.size + 1) s.heap.objs.size 0 .none := by
    have := Heap.get?_push_size (s.heap.push { cls := .type "tuple_iterator", data := .fields #[.ref l, .int 0 0] })
      (o := { cls := .type "enumerate", data := .fields #[.none, .bool false, .ref s.heap.objs.size, rawInt 0, .none, .none] }) rfl
    rw [hz] at this; exact this
  refine ⟨⟨_, he, rfl⟩, h _ he ⟨_, Heap.get?_push_of_some _ (Heap.get?_push_size _ rfl), rfl, rfl⟩ (by rw [Heap.size_push, hz]) fun b o x => Heap.get?_push_of_some _ (Heap.get?_push_of_some _ x)⟩
theorem wpAny_pyNext_enum_endX {prog : Program} {w : World} {A : Around} {E : Value → Shared → Prop} {s : Shared} {e it l : Addr} {i : Nat} {items : Array Value} {c : Int} {old : Value} {Q : Option Value → Shared → Prop} (hh : A.in1.handled = none)
    (he : IsEnum s.heap e it c old) (hit : s.heap.IsTupleIter it l i) (hl : s.heap.IsTuple l items) (hx : items[i]? = none)
    (hQ : ∀ h', Heap.ExtBut it s.heap h' → Q none { s with heap := h' }) : wpAny (model prog w) A (pyNext (.ref e)) Q E s := by
  have hT : s.TypeIs (.ref e) "enumerate" := ⟨_, he, rfl⟩
  unfold pyNext
  refine wpAny_bind (wpAny_attempt (wpAny_callSpecial?_slot (name := Str.ofString "__next__") hT F.slot_enumerate_next
    (wpAny_call_entry F.slot_enumerate_next hT F.entry_enumerate_next ?_ (F.args_enumerate_next_1 _))))
  show wpAny _ _ (field (.ref e) 2 >>= _) _ _ _
  refine wpAny_bind (wpAny_field he rfl (x := .ref it) rfl ?_)
  refine wpAny_bind (RZ.nextOf_tuple_end hh hit hl hx fun h' x he' hx' => ?_)
  obtain ⟨o, ho, hc⟩ := hx'
  refine wpAny_bind (wpAny_isInstance (T := "StopIteration") (b := true) ⟨o, ho, hc⟩ isSubtype_stop ?_)
  exact wpAny_pure (hQ _ he')
def IteT (K : PySem.W.Frag) (a : Addr) : It :=
  ⟨fun i H => ∃ (xs : List V) (x : V), SqT K H a xs ∧ xs[i]? = some x, fun i H v H' => ∃ T x, v = .ref T ∧ H T = none ∧ H' = upd H T (.tup [.int (i : Nat), x]) ∧ ∀ xs, SqT K H a xs → xs[i]? = some x, fun i H => ∃ xs : List V, SqT K H a xs ∧ xs.length ≤ i⟩
theorem turn_enumT {P : Program} {w : World} {K : PySem.W.Frag} {elts : List Expr} {kk : Nat} {tpos : Pos} (a e it : Addr) :
    Turn P w K (.Tuple elts kk tpos) (IteT K a) [e, it] e (fun i h => (∃ old, IsEnum h e it ((i : Nat) : Int) old) ∧ h.IsTupleIter it a i ∧ e ≠ it ∧ e ≠ a ∧ a ≠ it) where
  mem := by simp
  obj := fun i h st b hb => by
    obtain ⟨⟨old, he⟩, ⟨o, ho, hc, hd⟩, _⟩ := st
    have e' : b = e ∨ b = it := by simpa using hb
    rcases e' with z | z
    · rw [z]; exact ⟨_, he, fun v q => nomatch q⟩
    · rw [z]; exact ⟨o, ho, fun v q => by rw [hd] at q; cases q⟩
  keep := fun i h h' st k => let ⟨⟨old, he⟩, hi, hne⟩ := st; ⟨⟨old, k e (by simp) _ he⟩, hi.at fun o q => k it (by simp) o q, hne⟩
  item := by
    intro X hP hw hK hc i pins s σ H E I hf st hg
    subst hP hw hK
    obtain ⟨⟨old, he⟩, hit, hne, hea, hai⟩ := st
    obtain ⟨xs, x, hq, hx⟩ := hg
    obtain ⟨its, rv, p, _⟩ := I.tuple hq
    obtain ⟨u, hu, ru⟩ := rv.get hx
    have hel : e < s.heap.objs.size := Heap.lt_size he
    have hil : it < s.heap.objs.size := by obtain ⟨_, q, _⟩ := hit; exact Heap.lt_size q
    have ilt : i < its.toArray.size := by
      rw [List.size_toArray]
      exact (List.getElem?_eq_some_iff.mp hu).1
    have hh : X.A.in1.handled = none := show X.A.handled = none from I.ok.hd hc
    refine wpAny_pyNext_enum_itemD (draws_tuple hh it a hai its.toArray) he ⟨hit, p⟩ ilt hne (by simp [hne, hea]) fun x' h' tk hP ho hs' hT hsz hk => ?_
    obtain rfl : u = x' := by
      have q : its.toArray[i]? = some u := by simpa using hu
      rw [q] at hP
      exact Option.some.inj hP
    refine ⟨_, rfl, wpAny_letOwnedTupleGo_enum (s := { s with heap := h', toks := tk + 1 }) ho fun h'' he' sb => ?_⟩
    have hT2 : h''.get? s.heap.objs.size = some { cls := .type "tuple", data := .seq #[.int i tk, u] } := (sb.2 _ (Nat.ne_of_gt hel)).trans hT
    have new : ObjOk X.prog X.w (upd H s.heap.objs.size (.tup [.int (i : Nat), x])) h'' s.heap.objs.size (.tup [.int (i : Nat), x]) :=
      ⟨by show 2 ≤ sizeLine; decide, [.int i tk, u], .cons ⟨_, rfl⟩ (.cons ru .nil), ⟨_, hT2, rfl, _, rfl⟩⟩
    have I1 : Inv X pins σ (upd H s.heap.objs.size (.tup [.int (i : Nat), x])) { s with heap := h'', toks := tk + 1 } :=
      I.turnedNew (ch := [e, it]) (fun b ob hb q => (sb.2 b (fun z => hb (by simp [z]))).trans (hk b ob (fun z => hb (by simp [z])) (fun z => hb (by simp [z])) q)) hf (Nat.le_refl _) new
    refine ⟨.ref s.heap.objs.size, _, I1, rfl, ⟨_, x, rfl, I.hok.fresh (Nat.le_refl _), rfl, fun ys hy => by rw [I.tuple_inj hy hq]; exact hx⟩, ⟨⟨u, ?_⟩, hs'.1.at fun o q => (sb.2 it (Ne.symm hne)).trans q, hne, hea, hai⟩, fun b hb => ?_⟩
    · have e1 : ((i + 1 : Nat) : Int) = (i : Int) + 1 := by omega
      rw [e1]; exact he'
    · have hb' : b < s.heap.objs.size := by
        have e' : b = e ∨ b = it := by simpa using hb
        rcases e' with z | z
        · rw [z]; exact hel
        · rw [z]; exact hil
      rw [upd_ne (Nat.ne_of_lt hb')]
      exact (hf b hb).1
  done := by
    intro X hP hw hK hc i pins s σ H E I hf st hg
    subst hP hw hK
    obtain ⟨⟨old, he⟩, hit, hne, hea, hai⟩ := st
    obtain ⟨xs, hq, hx⟩ := hg
    obtain ⟨its, rv, p, _⟩ := I.tuple hq
    obtain ⟨f0, f1, f2, f3, f4, f5⟩ := hf it (by simp)
    have hl := rv.length
    have hh : X.A.in1.handled = none := show X.A.handled = none from I.ok.hd hc
    refine wpAny_pyNext_enum_endX hh he hit p (by simp; omega) fun h' eb => ⟨rfl, I.turned (t' := s.toks) (fun b o hb q => eb b o hb q) f0 f1 f3 f4 f5⟩
  self := fun A i s Q E st h => let ⟨⟨_, he⟩, _⟩ := st; wpAny_pyIter_enum he h
def iEnumT (K : PySem.W.Frag) (ta : TA) : TI := fun σ H R => ta σ H fun vs H1 => ∃ a xs, vs = [.ref a] ∧ SqT K H1 a xs ∧ R (IteT K a) H1
theorem pi_enumT {X : Cx} {e : Expr} {ta : TA} {p pos tpos : Pos} {elts : List Expr} {kk : Nat} (hg : Gl X "enumerate") (hm : X.mg "enumerate" = none) (ha : PA X [e] ta) (hs : starEach [e] X.env = [(false, eval e X.env)] := by rfl) :
    PI X (.Tuple elts kk tpos) (.Call (.Name "enumerate" p) [e] [] pos) (iEnumT X.K ta) := by
  refine ⟨fun pins s σ H R I h => ?_⟩
  refine Call_ (ld_blt I hg hm boot_enumerate (PyProof.Rows.callWith_type1 (thn (ha.run pos pins s σ H _ I h) fun us s1 ⟨vs, H1, I1, r1, q1⟩ => ?_) hs rfl))
  obtain ⟨a, xs, ex, hq, q⟩ := q1
  subst ex
  cases r1 with
  | cons r rr =>
    cases rr
    cases r
    obtain ⟨its, rv, p', hz⟩ := I1.tuple hq
    have al : a < s1.heap.objs.size := by obtain ⟨_, y, _⟩ := id p'; exact Heap.lt_size y
    refine call_enumT p' fun h' he hit hsz hk => wpAny_pyIter_enum he ?_
    have I2 : Inv X pins σ H1 { s1 with heap := h' } := I1.kept (t' := s1.toks) hk
    refine ⟨s1.heap.objs.size + 1, [s1.heap.objs.size + 1, s1.heap.objs.size], _, _, H1, rfl, I2, turn_enumT a (s1.heap.objs.size + 1) s1.heap.objs.size, ⟨⟨.none, he⟩, hit, Nat.succ_ne_self _, Nat.ne_of_gt (Nat.lt_succ_of_lt al), Nat.ne_of_lt al⟩, fun b hb => ?_, q⟩
    have e' : b = s1.heap.objs.size + 1 ∨ b = s1.heap.objs.size := by simpa using hb
    have hle : s1.heap.objs.size ≤ b := by
      rcases e' with z | z
      · rw [z]; exact Nat.le_add_right _ _
      · rw [z]; exact Nat.le_refl _
    exact I1.fpOk hle (I1.hok.fresh hle)
end ET

/-! ### slices and sums of tuples as data; texts times a number; what may be a list or a tuple -/
theorem cut_take (xs : List V) (k : Nat) (h : k ≤ xs.length) : cutV xs none (some (k : Int)) = xs.take k := by
  unfold cutV
  rw [HT.sIx_none, HT.sIx_nat, List.drop_zero, Nat.sub_zero, Nat.min_eq_left h]
theorem cut_drop (xs : List V) (k : Nat) (h : k ≤ xs.length) : cutV xs (some (k : Int)) none = xs.drop k := by
  unfold cutV
  rw [HT.sIx_none, HT.sIx_nat, Nat.min_eq_left h]
  exact List.take_of_length_le (by rw [List.length_drop]; exact Nat.le_refl _)
theorem TpAll.take {H : Hp} : ∀ {vs : List V} {ds : List PyData} (k : Nat), TpAll H vs ds → TpAll H (vs.take k) (ds.take k)
  | _, _, 0, _ => .nil
  | _, _, _ + 1, .nil => .nil
  | _, _, k + 1, .cons h hs => .cons h (TpAll.take k hs)
theorem TpAll.drop {H : Hp} : ∀ {vs : List V} {ds : List PyData} (k : Nat), TpAll H vs ds → TpAll H (vs.drop k) (ds.drop k)
  | _, _, 0, h => h
  | _, _, _ + 1, .nil => .nil
  | _, _, k + 1, .cons _ hs => TpAll.drop k hs
/-- t[:k] -/
theorem sl_take {K : PySem.W.Frag} {H : Hp} {x : V} {ds : List PyData} {k : Nat} {Q : VK} (hx : Tp H x (.tuple ds)) (hk : k ≤ ds.length) (h : ∀ (v : V) H', Same H H' → Tp H' v (.tuple (ds.take k)) → Q v H') : rSlA K x none (some (k : Int)) H Q := by
  obtain ⟨a, xs, rfl, h1, h2⟩ := hx.tup_inv
  have hk' : k ≤ xs.length := by rw [h2.len]; exact hk
  refine ⟨a, xs, rfl, SqT.of h1, fun ⟨_, e⟩ => ?_, fun _ p hp => ?_⟩
  · rw [HT.sIx_nat, Nat.min_eq_left hk'] at e
    refine h _ _ (Same.refl H) (.tup h1 ?_)
    rw [List.take_of_length_le (by rw [← h2.len, e]; exact Nat.le_refl _)]
    exact h2
  · refine h _ _ (same_new hp) (.tup upd_same ?_)
    rw [cut_take xs k hk']
    exact (h2.take k).mono (tk_new hp)
/-- t[k:] -/
theorem sl_drop {K : PySem.W.Frag} {H : Hp} {x : V} {ds : List PyData} {k : Nat} {Q : VK} (hx : Tp H x (.tuple ds)) (hk : k ≤ ds.length) (h : ∀ (v : V) H', Same H H' → Tp H' v (.tuple (ds.drop k)) → Q v H') : rSlA K x (some (k : Int)) none H Q := by
  obtain ⟨a, xs, rfl, h1, h2⟩ := hx.tup_inv
  have hk' : k ≤ xs.length := by rw [h2.len]; exact hk
  refine ⟨a, xs, rfl, SqT.of h1, fun ⟨e, _⟩ => ?_, fun _ p hp => ?_⟩
  · rw [HT.sIx_nat, Nat.min_eq_left hk'] at e
    refine h _ _ (Same.refl H) (.tup h1 ?_)
    rw [e, List.drop_zero]
    exact h2
  · refine h _ _ (same_new hp) (.tup upd_same ?_)
    rw [cut_drop xs k hk']
    exact (h2.drop k).mono (tk_new hp)
/-- t + u -/
theorem cat_tp {K : PySem.W.Frag} {H : Hp} {x y : V} {ds es : List PyData} {Q : VK} (hx : Tp H x (.tuple ds)) (hy : Tp H y (.tuple es)) (n1 : ds.length ≤ 10000) (n2 : es.length ≤ 10000) (h : ∀ (v : V) H', Same H H' → Tp H' v (.tuple (ds ++ es)) → Q v H') : rCatA K x y H Q := by
  obtain ⟨a, xs, rfl, h1, h2⟩ := hx.tup_inv
  obtain ⟨b, ys, rfl, g1, g2⟩ := hy.tup_inv
  have e1 := h2.len
  have e2 := g2.len
  refine ⟨a, b, xs, ys, rfl, rfl, SqT.of h1, SqT.of g1, Nat.le_trans (show xs.length + ys.length ≤ 20000 by omega) (by decide), fun z => ?_, fun _ z => ?_, fun _ _ p hp => ?_⟩
  · subst z
    cases h2
    exact h _ _ (Same.refl H) (.tup g1 g2)
  · subst z
    cases g2
    refine h _ _ (Same.refl H) (.tup h1 ?_)
    rw [List.append_nil]
    exact h2
  · exact h _ _ (same_new hp) (.tup upd_same ((h2.app g2).mono (tk_new hp)))
theorem sl_tupAK {X : Cx} (K : PySem.W.Frag) (h : X.K = K := by rfl) : SlR X (rSlA K) := by
  rw [← h]
  exact sl_tupA
/-- one sign, so often -/
def rowOf (c : Nat) (n : Nat) : Str := ⟨(List.replicate n c).toArray⟩
theorem rowOf_len (c n : Nat) : (rowOf c n).length = n := by
  show (List.replicate n c).toArray.size = n
  rw [List.size_toArray, List.length_replicate]
theorem rowOf_low {c n : Nat} (h : 97 ≤ c ∧ c ≤ 122) : ∀ z ∈ (rowOf c n).cps.toList, 97 ≤ z ∧ z ≤ 122 := by
  intro z hz
  have hz' : z ∈ List.replicate n c := hz
  rw [List.eq_of_mem_replicate hz']
  exact h
theorem rep_sign (c : Nat) : ∀ (n : Nat) (acc : Array Nat), (List.replicate n #[c]).foldl (· ++ ·) acc = acc ++ (List.replicate n c).toArray
  | 0, acc => by
    show acc = acc ++ #[]
    rw [Array.append_empty]
  | n + 1, acc => by
    rw [List.replicate_succ, List.foldl_cons, rep_sign c n]
    refine Array.toList_inj.mp ?_
    rw [Array.toList_append, Array.toList_append, Array.toList_append, List.replicate_succ, List.append_assoc]
    rfl
def rMulS : R2 := fun x y H Q => ∃ (c : Nat) (n : Nat), x = .str ⟨#[c]⟩ ∧ y = .int n ∧ 2 ≤ n ∧ n ≤ 100000 ∧ Q (.str (rowOf c n)) H
section
open PySem.Spec PyProof.Rows
theorem op_mulS {X : Cx} : OpR X (binaryOp .Mult) rMulS := by
  intro pins s σ H x y v u Q I rx ry given
  obtain ⟨c, n, rfl, rfl, n2, big, q⟩ := given
  obtain ⟨t, rfl⟩ := rx
  obtain ⟨t2, rfl⟩ := ry
  have one : ((⟨#[c]⟩ : Str).length) = 1 := rfl
  refine PySem.P.mul_str ?_ (fun _ _ => ?_) (fun _ _ => ?_) ?_
  · rw [decide_eq_false (by omega), decide_eq_false (by omega)]
    rfl
  · rw [one]
    have h1 : (1 : Int) ≤ (2 ^ 63 - 1) / (n : Int) := (Int.le_ediv_iff_mul_le (by omega)).mpr (by omega)
    exact Int.not_lt.mpr h1
  · rw [one, Nat.one_mul, Int.toNat_natCast]
    unfold Builtin.Str.tooLong
    exact decide_eq_false (Nat.not_lt.mpr (Nat.le_trans big (by decide)))
  · have e1 : ¬ (n : Int) < 1 := by omega
    have e2 : ((n : Int) == 1 || (⟨#[c]⟩ : Str).length == 0) = false := by
      rw [one, Bool.or_eq_false_iff]
      exact ⟨beq_eq_false_iff_ne.mpr (by omega), rfl⟩
    rw [if_neg e1, if_neg (by rw [e2]; exact Bool.false_ne_true), Int.toNat_natCast]
    have e3 : (⟨(List.replicate n (⟨#[c]⟩ : Str).cps).foldl (· ++ ·) #[]⟩ : Str) = rowOf c n := by
      refine Str.ext' ?_
      show (List.replicate n #[c]).foldl (· ++ ·) #[] = (List.replicate n c).toArray
      rw [rep_sign, Array.empty_append]
    rw [e3]
    refine ⟨?_, .str _, H, I.tok _, ⟨_, rfl⟩, q⟩
    rw [rowOf_len]
    exact Nat.le_trans big (by decide)
/-- a walk over what is a list or a tuple -/
theorem pi_any {X : Cx} {tg l : Expr} {tl : TE} (h : PE X l tl) : PI X tg l (fun σ H R => iList X.K tl σ H R ∨ iTup X.K tl σ H R) :=
  ⟨fun pins s σ H R I q => q.elim (fun z => (pi_list (tg := tg) h).run pins s σ H R I z) (fun z => (pi_tup (tg := tg) h).run pins s σ H R I z)⟩
end
/-- a walk over a tuple, whatever is done with the items -/
theorem walk_tup {K : PySem.W.Frag} {a : Addr} {xs : List V} {body : V → Hp → (Hp → Prop) → Prop} {H0 : Hp} {Qd : Hp → Prop} (Pv : Nat → Hp → Prop) (h0 : Pv 0 H0) (hl : ∀ i H, i ≤ xs.length → Pv i H → SqT K H a xs)
    (hs : ∀ i x H, xs[i]? = some x → Pv i H → body x H (Pv (i + 1))) (hd : ∀ H, Pv xs.length H → Qd H) :
    ∃ W : Nat → Nat → Hp → Prop, (∃ m, W 0 m H0) ∧ ∀ i m H, W i m H → ((Itt K a).stop i H ∧ Qd H) ∨ ((Itt K a).go i H ∧ ∃ Nx : Hp → Prop, (∀ H', Nx H' → ∃ m', m' < m ∧ W (i + 1) m' H') ∧ ∀ x H', (Itt K a).yld i H x H' → body x H' Nx) := by
  refine ⟨fun i m H => m = xs.length - i ∧ i ≤ xs.length ∧ Pv i H, ⟨xs.length, rfl, Nat.zero_le _, h0⟩, fun i m H ⟨em, hi, p⟩ => ?_⟩
  have at_a := hl i H hi p
  rcases Nat.lt_or_eq_of_le hi with lt | eq
  · refine .inr ⟨⟨xs, xs[i], at_a, List.getElem?_eq_getElem lt⟩, Pv (i + 1), fun H' p' => ⟨xs.length - (i + 1), by omega, rfl, lt, p'⟩, fun x H' y => ?_⟩
    obtain ⟨e, y⟩ := y
    rw [e]
    exact hs i x H (y xs at_a) p
  · refine .inl ⟨⟨xs, at_a, Nat.le_of_eq eq.symm⟩, hd H ?_⟩
    rw [← eq]
    exact p

theorem pg_tupK {X : Cx} (K : PySem.W.Frag) {es : List Expr} {k : Nat} {t : TGs} {n : Nat} {pos : Pos} (hc : X.calm = true) (h : PGs X es t) (e : X.K = K := by rfl)
    (hn : (assignEach es X.env).length = n := by rfl) (hst : (assignEach es X.env).findIdx? (·.1) = none := by rfl) : PG X (.Tuple es k pos) (gTup K n t) := by
  rw [← e]
  exact pg_tup hc h hn hst

/-! ### walks over tuples -/
theorem TpAll.snoc {H : Hp} : ∀ {vs : List V} {ds : List PyData} {v : V} {d : PyData}, TpAll H vs ds → Tp H v d → TpAll H (vs ++ [v]) (ds ++ [d])
  | _, _, _, _, h, hx => h.app (.cons hx .nil)
theorem TpAll.revl {H : Hp} : ∀ {vs : List V} {ds : List PyData}, TpAll H vs ds → TpAll H vs.reverse ds.reverse
  | _, _, .nil => .nil
  | _, _, .cons h hs => by
    rw [List.reverse_cons, List.reverse_cons]
    exact (TpAll.revl hs).app (.cons h .nil)
/-! ### a comprehension's rules with the written part told -/
theorem op_inK {X : Cx} (K : PySem.W.Frag) (h : X.K = K := by rfl) : OpR X (compareOp .In) (rIn K false) := by
  rw [← h]
  exact op_in_seq
theorem pi_tupK {X : Cx} (K : PySem.W.Frag) {tg l : Expr} {tl : TE} (hl : PE X l tl) (h : X.K = K := by rfl) : PI X tg l (iTup K tl) := by
  rw [← h]
  exact pi_tup hl
theorem for_enumT {K : PySem.W.Frag} {a : Addr} {xs : List V} {g : TG} {tb : TS} {D : Ends} {σ : L2.St} {H : Hp} (Pv : Nat → L2.St → Hp → Prop) (h0 : Pv 0 σ H) (hq : ∀ i σ H, Pv i σ H → SqT K H a xs)
    (hs : ∀ (i : Nat) (x : V) (T : Addr) (σ : L2.St) (H : Hp), xs[i]? = some x → Pv i σ H → H T = none → g (.ref T) σ (upd H T (.tup [.int (i : Nat), x])) fun σ2 H2 => tb { D with nx := Pv (i + 1), ct := Pv (i + 1), bk := D.nx } σ2 H2) (hd : ∀ σ H, Pv xs.length σ H → D.nx σ H) :
    ∃ W : Nat → Nat → L2.St → Hp → Prop, (∃ m, W 0 m σ H) ∧ ∀ i m σ H, W i m σ H →
      ((ET.IteT K a).stop i H ∧ D.nx σ H) ∨ ((ET.IteT K a).go i H ∧ ∃ N : L2.St → Hp → Prop, (∀ σ' H', N σ' H' → ∃ m', m' < m ∧ W (i + 1) m' σ' H') ∧ ∀ v H', (ET.IteT K a).yld i H v H' → g v σ H' fun σ2 H2 => tb { D with nx := N, ct := N, bk := D.nx } σ2 H2) := by
  refine ⟨fun i m σ H => m = xs.length - i ∧ i ≤ xs.length ∧ Pv i σ H, ⟨xs.length, rfl, Nat.zero_le _, h0⟩, ?_⟩
  rintro i m σ H ⟨em, le, p⟩
  have at_a := hq i σ H p
  rcases Nat.lt_or_eq_of_le le with lt | eq
  · refine .inr ⟨⟨xs, xs[i], at_a, List.getElem?_eq_getElem lt⟩, Pv (i + 1), fun σ' H' p' => ⟨xs.length - (i + 1), by omega, rfl, lt, p'⟩, fun v H' y => ?_⟩
    obtain ⟨T, x, ev, hT, e, hx⟩ := y
    rw [e, ev]
    exact hs i x T σ H (hx xs at_a) p hT
  · refine .inl ⟨⟨xs, at_a, Nat.le_of_eq eq.symm⟩, hd σ H ?_⟩
    rw [← eq]
    exact p
/-- a walk over two tuples of one length side by side, whatever is done with the pairs -/
theorem walk_zipT {K : PySem.W.Frag} {a b : Addr} {xs ys : List V} {body : V → Hp → (Hp → Prop) → Prop} {H0 : Hp} {Qd : Hp → Prop} (hl : xs.length = ys.length) (Pv : Nat → Hp → Prop) (h0 : Pv 0 H0) (hq : ∀ i H, Pv i H → SqT K H a xs ∧ SqT K H b ys)
    (hs : ∀ i x y T H, xs[i]? = some x → ys[i]? = some y → Pv i H → H T = none → body (.ref T) (upd H T (.tup [x, y])) (Pv (i + 1))) (hd : ∀ H, Pv xs.length H → Qd H) :
    ∃ W : Nat → Nat → Hp → Prop, (∃ m, W 0 m H0) ∧ ∀ i m H, W i m H → ((RZ.ItzT K a b).stop i H ∧ Qd H) ∨ ((RZ.ItzT K a b).go i H ∧ ∃ Nx : Hp → Prop, (∀ H', Nx H' → ∃ m', m' < m ∧ W (i + 1) m' H') ∧ ∀ x H', (RZ.ItzT K a b).yld i H x H' → body x H' Nx) := by
  refine ⟨fun i m H => m = xs.length - i ∧ i ≤ xs.length ∧ Pv i H, ⟨xs.length, rfl, Nat.zero_le _, h0⟩, fun i m H ⟨em, hi, p⟩ => ?_⟩
  obtain ⟨qx, qy⟩ := hq i H p
  rcases Nat.lt_or_eq_of_le hi with lt | eq
  · refine .inr ⟨⟨xs, ys, xs[i], ys[i]'(by omega), qx, qy, List.getElem?_eq_getElem lt, List.getElem?_eq_getElem (by omega)⟩, Pv (i + 1), fun H' p' => ⟨xs.length - (i + 1), by omega, rfl, lt, p'⟩, fun x H' y => ?_⟩
    obtain ⟨T, x1, y1, ev, hT, e, hx, hy⟩ := y
    rw [e, ev]
    exact hs i x1 y1 T H (hx xs qx) (hy ys qy) p hT
  · refine .inl ⟨⟨xs, ys, qx, qy, .inl (Nat.le_of_eq eq.symm)⟩, hd H ?_⟩
    rw [← eq]
    exact p

theorem Tp.rc_inv {H : Hp} {v : V} {r : Rc} (h : Tp H v r.d) : ∃ a, v = .ref a ∧ H a = some (.tup (r.map Pt.v)) := by
  obtain ⟨a, xs, rfl, h1, h2⟩ := h.tup_inv
  rw [tpAll_parts h2] at h1
  exact ⟨a, rfl, h1⟩

/-! ### fates: what they are -/
abbrev Ent2 := Nat × List Rc
def entP (p : Ent2) : PyData := entD (some p)
def endF (B : Nat) (r : Rc) : List Nat := (List.range B).map fun b => if b ∈ bufs r then 1 else 0
def fateOf : List Rc → List Nat → Nat → Nat
  | f :: fs, x :: xs, b => if b ∈ bufs f then x else fateOf fs xs b
  | _, _, _ => 0
def befF (fs : List Rc) (later : List Nat) : List Nat := (List.range fs.length).map (fateOf fs later)
def backF : List Ent2 → List Nat → List (List Nat)
  | [], l => [l]
  | p :: r, l => befF p.2 ((backF r l).headD []) :: backF r l
def addE (es : List Ent2) : Option (Nat × List Rc) → Option (Nat × List Ent2)
  | none => none
  | some (t, fs) => some (t, es ++ [(t, fs)])
def stepE (W : Wr) (o : Option (Nat × List Ent2)) (k : Nat) : Option (Nat × List Ent2) :=
  match o with
  | none => none
  | some (st, es) => addE es ((W.rules.getD st []).getD k none)
def walkE (W : Wr) (ns : List Nat) : Option (Nat × List Ent2) := ns.foldl (stepE W) (some (0, []))
def fatesW (W : Wr) (ns : List Nat) : Option (List (List Nat)) :=
  match walkE W ns with
  | none => none
  | some (st, es) => (W.ends.getD st none).map fun r => backF es (endF W.begins.length r)
def fatesD : Option (List (List Nat)) → PyData
  | none => .none
  | some ls => .tuple (ls.map wordD)
theorem foldE_none (W : Wr) : ∀ l : List Nat, l.foldl (stepE W) none = none
  | [] => rfl
  | _ :: r => foldE_none W r
theorem walk_more (W : Wr) {ns : List Nat} {i x : Nat} (h : ns[i]? = some x) : walkE W (ns.take (i + 1)) = stepE W (walkE W (ns.take i)) x := foldl_more (stepE W) _ h
theorem walk_run (W : Wr) : ∀ (ns : List Nat) (o : Option (Nat × List Ent2)) (o' : Option (Nat × List Str)), o.map (·.1) = o'.map (·.1) → (ns.foldl (stepE W) o).map (·.1) = (ns.foldl (stepW W) o').map (·.1)
  | [], o, o', h => h
  | k :: r, o, o', h => by
    rw [List.foldl_cons, List.foldl_cons]
    refine walk_run W r _ _ ?_
    cases o with
    | none =>
      cases o' with
      | none => rfl
      | some y => cases h
    | some x =>
      cases o' with
      | none => cases h
      | some y =>
        obtain ⟨st, es⟩ := x
        obtain ⟨st', ts⟩ := y
        obtain rfl : st = st' := Option.some.inj h
        show (addE es ((W.rules.getD st []).getD k none)).map _ = (goE ts ((W.rules.getD st []).getD k none)).map _
        cases (W.rules.getD st []).getD k none with
        | none => rfl
        | some z => rfl
theorem walk_run0 (W : Wr) (ns : List Nat) : (walkE W ns).map (·.1) = (runW W ns).map (·.1) := walk_run W ns _ _ rfl
/-- a word that is not written has no fates -/
theorem fates_none {W : Wr} {ns : List Nat} (h : tellW W ns = none) : fatesW W ns = none := by
  have q := walk_run0 W ns
  unfold fatesW
  cases e : walkE W ns with
  | none => rfl
  | some x =>
    obtain ⟨st, es⟩ := x
    rw [e] at q
    cases er : runW W ns with
    | none =>
      rw [er] at q
      cases q
    | some y =>
      obtain ⟨st', ts⟩ := y
      rw [er] at q
      obtain rfl : st = st' := Option.some.inj q
      rw [tell_some er] at h
      show (W.ends.getD st none).map _ = none
      cases e2 : W.ends.getD st none with
      | none => rfl
      | some r =>
        rw [e2] at h
        cases h
theorem fates_some {W : Wr} {ns : List Nat} {z : Str} (h : tellW W ns = some z) : ∃ st es r, walkE W ns = some (st, es) ∧ W.ends.getD st none = some r := by
  have q := walk_run0 W ns
  cases er : runW W ns with
  | none =>
    rw [tell_none er] at h
    cases h
  | some y =>
    obtain ⟨st, ts⟩ := y
    rw [tell_some er] at h
    rw [er] at q
    cases e : walkE W ns with
    | none =>
      rw [e] at q
      cases q
    | some x =>
      obtain ⟨st', es⟩ := x
      rw [e] at q
      obtain rfl : st' = st := Option.some.inj q
      cases e2 : W.ends.getD st' none with
      | none =>
        rw [e2] at h
        cases h
      | some r => exact ⟨st', es, r, rfl, e2⟩
/-- what a walk's entries are -/
structure EsOk (S B : Nat) (st : Nat) (es : List Ent2) : Prop where
  lt : st < S
  each : ∀ p ∈ es, p.1 < S ∧ FOk B p.2
  last : st = (es.getLast?.map (·.1)).getD 0
theorem walk_ok {k S B : Nat} {W : Wr} (h : WOk k S B W) (hS : 1 ≤ S) {ns : List Nat} (hn : ∀ i ∈ ns, i < k) {st : Nat} {es : List Ent2} (e : walkE W ns = some (st, es)) : EsOk S B st es ∧ es.length = ns.length := by
  have main : ∀ (l : List Nat) (o : Option (Nat × List Ent2)) (m : Nat), (∀ i ∈ l, i < k) → (∀ st es, o = some (st, es) → EsOk S B st es ∧ es.length = m) → ∀ st es, l.foldl (stepE W) o = some (st, es) → EsOk S B st es ∧ es.length = m + l.length := by
    intro l
    induction l with
    | nil => exact fun o m _ ho st es e => ho st es e
    | cons a r ih =>
      intro o m hl ho st es e
      rw [List.foldl_cons] at e
      have q := ih (stepE W o a) (m + 1) (fun i hi => hl i (List.mem_cons_of_mem _ hi)) ?_ st es e
      · rw [List.length_cons]
        exact ⟨q.1, by omega⟩
      · intro st' es' e'
        cases o with
        | none => cases e'
        | some x =>
          obtain ⟨s0, e0⟩ := x
          obtain ⟨s1, s2⟩ := ho s0 e0 rfl
          obtain ⟨row, en, _, _, h3, h4⟩ := ent_at h s1.lt (hl a List.mem_cons_self)
          have e2 : stepE W (some (s0, e0)) a = addE e0 en := congrArg (addE e0) h3
          rw [e2] at e'
          cases en with
          | none => cases e'
          | some y =>
            obtain ⟨t, fs⟩ := y
            obtain ⟨g1, g2⟩ := h4 t fs rfl
            cases e'
            refine ⟨⟨g1, fun p hp => ?_, ?_⟩, by rw [List.length_append, s2]; rfl⟩
            · rcases List.mem_append.mp hp with hp | hp
              · exact s1.each p hp
              · rw [List.mem_singleton.mp hp]
                exact ⟨g1, g2⟩
            · rw [List.getLast?_concat]
              rfl
  have q := main ns _ 0 hn (fun st es e => by cases e; exact ⟨⟨hS, fun p hp => (by cases hp), rfl⟩, rfl⟩) st es e
  rw [Nat.zero_add] at q
  exact q
theorem inV_parts (b : Nat) : ∀ r : Rc, inV (.int (b : Nat)) (r.map Pt.v) = decide (b ∈ bufs r)
  | [] => rfl
  | .s z :: r => by
    have e : bufs (.s z :: r) = bufs r := by
      unfold bufs
      rw [List.flatMap_cons]
      rfl
    rw [e, ← inV_parts b r]
    rfl
  | .b i :: r => by
    have e : bufs (.b i :: r) = i :: bufs r := by
      unfold bufs
      rw [List.flatMap_cons]
      rfl
    rw [e]
    have q := inV_parts b r
    unfold inV at q ⊢
    rw [List.map_cons, List.any_cons, q]
    show (((i : Nat) : Int) == ((b : Nat) : Int) || _) = _
    by_cases h : b = i
    · subst h
      rw [decide_eq_true List.mem_cons_self, beq_self_eq_true, Bool.true_or]
    · have n1 : (((i : Nat) : Int) == ((b : Nat) : Int)) = false := beq_eq_false_iff_ne.mpr (by omega)
      rw [n1, Bool.false_or]
      by_cases h2 : b ∈ bufs r
      · rw [decide_eq_true h2, decide_eq_true (List.mem_cons_of_mem _ h2)]
      · rw [decide_eq_false h2, decide_eq_false (fun z => (List.mem_cons.mp z).elim h h2)]
theorem flat_parts (r : Rc) : (r.map Pt.v).all flatV = true := by
  rw [List.all_eq_true]
  intro x hx
  obtain ⟨q, _, rfl⟩ := List.mem_map.mp hx
  cases q <;> rfl
theorem fateOf_le : ∀ (fs : List Rc) (l : List Nat) (b : Nat), (∀ x ∈ l, x ≤ 1) → fateOf fs l b ≤ 1
  | [], _, _, _ => Nat.zero_le _
  | _ :: _, [], _, _ => Nat.zero_le _
  | f :: fs, x :: xs, b, h => by
    unfold fateOf
    split
    · exact h x List.mem_cons_self
    · exact fateOf_le fs xs b fun y hy => h y (List.mem_cons_of_mem _ hy)
def rowOk (B : Nat) (l : List Nat) : Prop := l.length = B ∧ ∀ x ∈ l, x ≤ 1
theorem endF_ok (B : Nat) (r : Rc) : rowOk B (endF B r) := by
  unfold endF
  refine ⟨by rw [List.length_map, List.length_range], fun x hx => ?_⟩
  obtain ⟨b, _, rfl⟩ := List.mem_map.mp hx
  split <;> decide
theorem befF_ok {B : Nat} {fs : List Rc} {l : List Nat} (h : fs.length = B) (hl : rowOk B l) : rowOk B (befF fs l) := by
  unfold befF
  refine ⟨by rw [List.length_map, List.length_range, h], fun x hx => ?_⟩
  obtain ⟨b, _, rfl⟩ := List.mem_map.mp hx
  exact fateOf_le _ _ _ hl.2
theorem backF_ok {S B : Nat} {l : List Nat} (hl : rowOk B l) : ∀ es : List Ent2, (∀ p ∈ es, p.1 < S ∧ FOk B p.2) → (∃ h t, backF es l = h :: t ∧ rowOk B h) ∧ (backF es l).length = es.length + 1 ∧ ∀ row ∈ backF es l, rowOk B row
  | [], _ => ⟨⟨l, [], rfl, hl⟩, rfl, fun row hr => by rw [List.mem_singleton.mp hr]; exact hl⟩
  | p :: r, h => by
    obtain ⟨⟨x, t, e, ok⟩, ln, all⟩ := backF_ok hl r fun q hq => h q (List.mem_cons_of_mem _ hq)
    have q : rowOk B (befF p.2 ((backF r l).headD [])) := by
      rw [e]
      exact befF_ok (h p List.mem_cons_self).2.len ok
    refine ⟨⟨_, _, rfl, q⟩, ?_, fun row hr => ?_⟩
    · show (backF r l).length + 1 = _
      rw [ln]
      rfl
    · rcases List.mem_cons.mp hr with rfl | hr
      · exact q
      · exact all row hr
theorem backF_step {es : List Ent2} {l : List Nat} {i : Nat} (h : i < es.length) : backF (es.drop i) l = befF es[i].2 ((backF (es.drop (i + 1)) l).headD []) :: backF (es.drop (i + 1)) l := by
  rw [List.drop_eq_getElem_cons h]
  rfl

/-! ### the program's fates -/
def usedP (fs : List Rc) (later : List Nat) : Rc := (fs.zip later).flatMap fun p => if p.2 = 1 then p.1 else []
theorem used_cons (f : Rc) (fs : List Rc) (x : Nat) (xs : List Nat) : usedP (f :: fs) (x :: xs) = (if x = 1 then f else []) ++ usedP fs xs := by
  unfold usedP
  rw [List.zip_cons_cons, List.flatMap_cons]
theorem used_sub : ∀ (fs : List Rc) (l : List Nat) (b : Nat), b ∈ bufs (usedP fs l) → b ∈ fs.flatMap bufs
  | [], l, b, h => by cases l <;> cases h
  | f :: fs, [], b, h => by cases h
  | f :: fs, x :: xs, b, h => by
    rw [used_cons, bufs_app] at h
    rw [List.flatMap_cons]
    rcases List.mem_append.mp h with h | h
    · split at h
      · exact List.mem_append_left _ h
      · cases h
    · exact List.mem_append_right _ (used_sub fs xs b h)
theorem used_fate : ∀ (fs : List Rc) (l : List Nat) (b : Nat), (fs.flatMap bufs).Nodup → l.length = fs.length → (∀ x ∈ l, x ≤ 1) → (if b ∈ bufs (usedP fs l) then 1 else 0) = fateOf fs l b
  | [], l, b, _, h, _ => by
    obtain rfl : l = [] := List.eq_nil_of_length_eq_zero h
    rfl
  | f :: fs, [], b, _, h, _ => by cases h
  | f :: fs, x :: xs, b, nd, h, hx => by
    rw [List.flatMap_cons, List.nodup_append] at nd
    have ih := used_fate fs xs b nd.2.1 (Nat.succ.inj h) fun y hy => hx y (List.mem_cons_of_mem _ hy)
    unfold fateOf
    by_cases hb : b ∈ bufs f
    · rw [if_pos hb]
      have out : b ∉ bufs (usedP fs xs) := fun z => nd.2.2 b hb b (used_sub fs xs b z) rfl
      rw [used_cons, bufs_app]
      have x1 := hx x List.mem_cons_self
      rcases Nat.lt_or_eq_of_le x1 with x0 | rfl
      · obtain rfl : x = 0 := by omega
        rw [if_neg (show ¬ (0 : Nat) = 1 by decide), if_neg]
        intro z
        rcases List.mem_append.mp z with z | z
        · cases z
        · exact out z
      · rw [if_pos rfl, if_pos (List.mem_append_left _ hb)]
    · rw [if_neg hb, ← ih, used_cons, bufs_app]
      have e : (b ∈ bufs (if x = 1 then f else []) ++ bufs (usedP fs xs)) ↔ b ∈ bufs (usedP fs xs) := by
        rw [List.mem_append]
        refine ⟨fun z => z.elim (fun z => ?_) id, .inr⟩
        split at z
        · exact absurd z hb
        · cases z
      by_cases c : b ∈ bufs (usedP fs xs)
      · rw [if_pos c, if_pos (e.mpr c)]
      · rw [if_neg c, if_neg fun z => c (e.mp z)]
theorem zip_take {α β : Type} : ∀ (j : Nat) (a : List α) (b : List β), (a.take j).zip (b.take j) = (a.zip b).take j
  | 0, _, _ => rfl
  | _ + 1, [], _ => rfl
  | _ + 1, _ :: _, [] => rfl
  | j + 1, x :: a, y :: b => by
    rw [List.take_succ_cons, List.take_succ_cons, List.zip_cons_cons, List.zip_cons_cons, List.take_succ_cons, zip_take j a b]
theorem used_take {fs : List Rc} {l : List Nat} {i : Nat} {f : Rc} {x : Nat} (h : fs[i]? = some f) (h2 : l[i]? = some x) : usedP (fs.take (i + 1)) (l.take (i + 1)) = usedP (fs.take i) (l.take i) ++ (if x = 1 then f else []) := by
  have e : ∀ j, usedP (fs.take j) (l.take j) = ((fs.zip l).take j).flatMap fun p => if p.2 = 1 then p.1 else [] := fun j => by
    unfold usedP
    rw [zip_take]
  have hz : (fs.zip l)[i]? = some (f, x) := List.getElem?_zip_eq_some.mpr ⟨h, h2⟩
  rw [e, e, List.take_add_one, hz, List.flatMap_append]
  show _ ++ List.flatMap _ [(f, x)] = _
  rw [List.flatMap_cons, List.flatMap_nil, List.append_nil]
theorem used_len : ∀ (fs : List Rc) (l : List Nat), (∀ r ∈ fs, r.length ≤ 5) → (usedP fs l).length ≤ 5 * fs.length
  | [], l, _ => by cases l <;> exact Nat.zero_le _
  | f :: fs, [], _ => Nat.zero_le _
  | f :: fs, x :: xs, h => by
    have a := h f List.mem_cons_self
    have b := used_len fs xs fun r hr => h r (List.mem_cons_of_mem _ hr)
    rw [used_cons, List.length_append, List.length_cons, Nat.mul_succ]
    have c : (if x = 1 then f else ([] : Rc)).length ≤ 5 := by
      split
      · exact a
      · exact Nat.zero_le _
    omega
theorem used_len2 {fs : List Rc} {l : List Nat} (i : Nat) (h : ∀ r ∈ fs, r.length ≤ 5) : (usedP (fs.take i) (l.take i)).length ≤ 5 * fs.length := by
  have q := used_len (fs.take i) (l.take i) fun r hr => h r (List.mem_of_mem_take hr)
  rw [List.length_take] at q
  exact Nat.le_trans q (Nat.mul_le_mul_left 5 (Nat.min_le_right _ _))
def spAtEnd : Sp := fun vs H Q _ => ∃ (a : V) (W : Wr) (st : Nat) (r : Rc) (k S B : Nat), vs = [a, .int st] ∧ Tp H a W.d ∧ WOk k S B W ∧ B ≤ 50 ∧ st < S ∧ W.ends.getD st none = some r ∧ ∀ (v : V) H', Same H H' → Tp H' v (wordD (endF B r)) → Q v H'
def spBefore : Sp := fun vs H Q _ => ∃ (a l : V) (fs : List Rc) (later : List Nat) (B : Nat), vs = [a, l] ∧ Tp H a (fillsD fs) ∧ Tp H l (wordD later) ∧ FOk B fs ∧ B ≤ 50 ∧ rowOk B later ∧ ∀ (v : V) H', Same H H' → Tp H' v (wordD (befF fs later)) → Q v H'
def spEntries : Sp := fun vs H Q _ => ∃ (a t : V) (W : Wr) (ns : List Nat) (k S B st : Nat) (es : List Ent2), vs = [a, t] ∧ Tp H a W.d ∧ Tp H t (wordD ns) ∧ WOk k S B W ∧ 1 ≤ S ∧ (∀ i ∈ ns, i < k) ∧ ns.length ≤ 1000 ∧ walkE W ns = some (st, es) ∧
  ∀ (L : Addr) H', Same H H' → LAt H' L (es.map entP) → Q (.ref L) H'
def spFates : Sp := fun vs H Q _ => ∃ (a t : V) (W : Wr) (ns : List Nat) (k S B : Nat), vs = [a, t] ∧ Tp H a W.d ∧ Tp H t (wordD ns) ∧ WOk k S B W ∧ 1 ≤ S ∧ B ≤ 50 ∧ (∀ i ∈ ns, i < k) ∧ ns.length ≤ 1000 ∧
  ∀ (v : V) H', Same H H' → Tp H' v (fatesD (fatesW W ns)) → Q v H'
theorem sc_at_end : FnScope ["writer", "state", "end", "buffer"] ["writer", "state"] (fnScope st_fates_at_end_) := fnScope_by (by decide +kernel)
def nBefore : List Str := ["fills", "later", "used", "recipe", "fate", "part", "buffer"]
theorem sc_before : FnScope nBefore ["fills", "later"] (fnScope st_fates_before_) := fnScope_by (by decide +kernel)
theorem sc_entries : FnScope ["writer", "word", "state", "entries", "kind", "entry"] ["writer", "word"] (fnScope st_entries_along_) := fnScope_by (by decide +kernel)
theorem sc_fates : FnScope ["writer", "word", "entries", "last", "found", "_", "fills"] ["writer", "word"] (fnScope st_fates_) := fnScope_by (by decide +kernel)
theorem bit_of (b : Bool) : (V.int (if b then 1 else 0)) = V.int ((if b = true then 1 else 0 : Nat) : Int) := by cases b <;> rfl
section
variable {P : Program} {w : World} {K : PySem.W.Frag} {mg : Str → Option Value} {base : Heap} {f : Addr} {fd : FuncData}
theorem cal_at_end (F : C8.Def K mg "fates_at_end" st_fates_at_end_ f fd) (b : Binds K fd ["writer", "state"] []) (B : BN2 mg) : Cal P w K mg base 1 "fates_at_end" spAtEnd [] := by
  refine cal0 F b .nil sc_at_end (fun vs H Q E h => ?_) (fun cdv A outer s H vs Q E hr h => ?_)
  · obtain ⟨a, W, st, r, k, S, B, rfl, _⟩ := h
    rfl
  · obtain ⟨a, W, st, r, kk, S, Bf, rfl, ha, hW, h50, hst, he, k⟩ := h
    obtain ⟨wa, wx, rfl, w1, w2⟩ := ha.tup_inv
    cases w2 with
    | @cons vb x3 _ _ tb w3 =>
    cases w3 with
    | @cons vr x4 _ _ tr w4 =>
    cases w4 with
    | @cons ve x5 _ _ te w5 =>
    cases w5
    obtain ⟨ba, bx, rfl, b1, b2⟩ := tb.tup_inv
    obtain ⟨ea, ex, rfl, w6, w7⟩ := te.tup_inv
    obtain ⟨e, e1, e2, e3⟩ := end_at hW hst
    rw [he] at e2
    subst e2
    obtain ⟨ev, w8, w9⟩ := w7.at e1
    obtain ⟨ra, rfl, r1⟩ := w9.rc_inv
    refine ⟨_, pss_cons (ps_set (i := 2) sc_at_end.nd rfl (Or.inr rfl) (pe_ix ix_tup (pe_ix ix_tup (pv 0) pe_int (fun _ _ => rfl)) (pv 1) (fun _ _ => rfl)))
      (pss_one (ps_ret (pe_callTy call_tuple_of (by rfl) B.tuple (by decide +kernel) (pa_cons (pe_lc (own := [("buffer", 3)]) (g := gName 3) (tt := tYes) (by rfl) sc_at_end.nd (pi_range1 rfl B.range (pa_cons (pe_callB call_len_seq (by rfl) B.len PySem.boot_len (pa_cons (pe_ix ix_tup (pv 0) pe_int (fun _ _ => rfl)) pa_nil)) pa_nil))
        (blkOk_by (own := [("buffer", 3)]) (N := ["writer", "state", "end", "buffer"]) (sc := fnScope st_fates_at_end_) (by decide +kernel)) (fun _ _ _ _ _ => pg_name (i := 3) sc_at_end.nd rfl (Or.inl rfl)) (fun _ _ _ _ _ => pts_nil)
        (fun _ _ _ _ _ => pe_callTy call_int1 (by rfl) B.int (by decide +kernel) (pa_cons (pe_cmpR (op_inK K) (pv 3) (pv 2) (by with_unfolding_all rfl)) pa_nil))) pa_nil)))), ?_⟩
    have bl : bx.length = Bf := by rw [b2.len, List.length_map, hW.b1]
    refine ⟨_, rfl, wa, _, _, _, rfl, rfl, SqT.of w1, atI_nat (j := 2) rfl, _, rfl, ea, ex, _, _, rfl, rfl, SqT.of w6, atI_nat w8, ?_⟩
    refine ⟨_, rfl, wa, _, _, _, rfl, rfl, SqT.of w1, atI_nat (j := 0) rfl, ba, _, rfl, .inr (SqT.of b1), _, rfl, by omega, by omega, fun D hD => ?_⟩
    refine lc_range (lo := 0) (n := (bx.length : Int).toNat) (fun i H' => Same H H' ∧ H' D = some (.lst (((iN (endF Bf r)).map V.int).take i))) ⟨same_new hD, by rw [upd_same, List.take_zero]⟩ ?_ ?_
    · rintro i H1 hi ⟨s1, hL⟩
      have iB : i < Bf := by
        rw [Int.toNat_natCast, bl] at hi
        exact hi
      have hat : ((iN (endF Bf r)).map V.int)[i]? = some (V.int (((if i ∈ bufs r then 1 else 0 : Nat)) : Int)) := by
        unfold iN endF
        rw [List.map_map, List.map_map, List.getElem?_map, List.getElem?_range iB]
        rfl
      refine ⟨rfl, _, rfl, _, rfl, ra, _, rfl, .inr (SqT.of (s1 _ _ r1)), rfl, flat_parts r, .inr ⟨_, rfl, _, hL, ?_, Same.put s1 hD, ?_⟩⟩
      · rw [List.length_take]
        refine Nat.lt_of_le_of_lt (Nat.min_le_left _ _) (Nat.lt_of_lt_of_le (show i < 50 by omega) (by decide))
      · rw [upd_same, List.take_add_one, hat]
        have e0 : (0 : Int) + (i : Int) = ((i : Nat) : Int) := Int.zero_add _
        show some (HO.lst (_ ++ [V.int (if inV (.int (0 + (i : Int))) (r.map Pt.v) = true then 1 else 0)])) = _
        rw [e0, inV_parts]
        by_cases c : i ∈ bufs r
        · rw [if_pos (decide_eq_true c), if_pos c]
          rfl
        · rw [if_neg (by rw [decide_eq_false c]; exact Bool.false_ne_true), if_neg c]
          rfl
    · rintro H1 ⟨s1, hL⟩
      have el : ((iN (endF Bf r)).map V.int).length = Bf := by
        unfold iN
        rw [List.length_map, List.length_map]
        exact (endF_ok Bf r).1
      rw [Int.toNat_natCast, bl, List.take_of_length_le (Nat.le_of_eq el)] at hL
      exact ⟨D, _, rfl, .inl ⟨SqL.of hL, fun u hu => k _ _ (Same.trans s1 (same_new hu)) (tp_word upd_same)⟩⟩
theorem cal_before (F : C8.Def K mg "fates_before" st_fates_before_ f fd) (b : Binds K fd ["fills", "later"] []) (B : BN2 mg) (Bz : mg "zip" = none) : Cal P w K mg base 1 "fates_before" spBefore [] := by
  refine cal0 F b .nil sc_before (fun vs H Q E h => ?_) (fun cdv A outer s H vs Q E hr h => ?_)
  · obtain ⟨a, l, fs, later, B, rfl, _⟩ := h
    rfl
  · obtain ⟨a, l, fs, later, Bf, rfl, ha, hl, hf, h50, hlo, k⟩ := h
    obtain ⟨a, xs, rfl, a1, a2⟩ := ha.tup_inv
    obtain ⟨l, rfl, l1⟩ := hl.word_inv
    have lx : xs.length = fs.length := by rw [a2.len, List.length_map]
    have ll : later.length = fs.length := by rw [hlo.1, hf.len]
    have f50 : fs.length ≤ 50 := by rw [hf.len]; exact h50
    refine ⟨_, pss_cons (ps_set (i := 2) sc_before.nd rfl (Or.inr rfl) (pe_lc2 (own := [("recipe", 3), ("fate", 4), ("part", 5)]) (vs1 := [5]) (g := gTup K 2 (gCons (gName 3) (gCons (gName 4) gNil))) (g1 := gName 5) (tt := tYes) (by rfl) sc_before.nd (RZ.pi_zipA rfl Bz (pa_cons (pv 0) (pa_cons (pv 1) pa_nil)))
        (blkOk_by (own := [("recipe", 3), ("fate", 4), ("part", 5)]) (N := nBefore) (sc := fnScope st_fates_before_) (by decide +kernel)) (by decide)
        (fun _ _ _ _ _ => pg_tupK K rfl (pgs_cons (pg_name (i := 3) sc_before.nd rfl (Or.inl rfl)) (pgs_cons (pg_name (i := 4) sc_before.nd rfl (Or.inl rfl)) pgs_nil))) (fun _ _ _ _ _ => pts_nil)
        (fun _ _ _ _ _ => pi_tupK K (pv 3)) (fun _ _ _ _ _ => pg_name (i := 5) sc_before.nd rfl (Or.inl rfl)) (fun _ _ _ _ _ => pts_one (pt_cmpR op_eq (pv 4) pe_int (nomark _))) (fun _ _ _ _ _ => pv 5)))
      (pss_one (ps_ret (pe_callTy call_tuple_of (by rfl) B.tuple (by decide +kernel) (pa_cons (pe_lc (own := [("buffer", 6)]) (g := gName 6) (tt := tYes) (by rfl) sc_before.nd (pi_range1 rfl B.range (pa_cons (pe_callB call_len_seq (by rfl) B.len PySem.boot_len (pa_cons (pv 0) pa_nil)) pa_nil))
        (blkOk_by (own := [("buffer", 6)]) (N := nBefore) (sc := fnScope st_fates_before_) (by decide +kernel)) (fun _ _ _ _ _ => pg_name (i := 6) sc_before.nd rfl (Or.inl rfl)) (fun _ _ _ _ _ => pts_nil)
        (fun _ _ _ _ _ => pe_callTy call_int1 (by rfl) B.int (by decide +kernel) (pa_cons (pe_cmpR (op_inK K) (pv 6) (pv 2) (by with_unfolding_all rfl)) pa_nil))) pa_nil)))), ?_⟩
    refine ⟨_, rfl, _, rfl, a, l, xs, _, rfl, .inr ⟨SqT.of a1, SqT.of l1, fun D hD => ?_⟩⟩
    have lz : xs.length = ((iN later).map V.int).length := by
      unfold iN
      rw [List.length_map, List.length_map, lx, ll]
    refine walk_zipT (K := K) (a := a) (b := l) (xs := xs) (ys := (iN later).map V.int) lz (fun i H' => Same H H' ∧ H' D = some (.lst ((usedP (fs.take i) (later.take i)).map Pt.v))) ⟨same_new hD, upd_same⟩ (fun i H' h => ⟨SqT.of (h.1 _ _ a1), SqT.of (h.1 _ _ l1)⟩) ?_ ?_
    · rintro i x y T H1 hx hy ⟨s1, hL⟩ hT
      have ilt : i < fs.length := by
        have q := (List.getElem?_eq_some_iff.mp hx).1
        omega
      have hfi := List.getElem?_eq_getElem ilt
      obtain ⟨x', hx', tx⟩ := a2.at hfi
      rw [hx] at hx'
      cases hx'
      obtain ⟨ra, rfl, r1⟩ := (tx.mono (Same.tk s1)).rc_inv
      have hli : later[i]? = some later[i] := List.getElem?_eq_getElem (by omega)
      obtain rfl : V.int (later[i] : Nat) = y := by
        unfold iN at hy
        rw [List.map_map, List.getElem?_map, hli] at hy
        exact Option.some.inj hy
      have mem := List.getElem_mem ilt
      have five := (hf.each _ mem).len
      have step := used_take hfi hli
      generalize fs[i] = rr at *
      generalize later[i] = ft at *
      have sT := same_new (o := .tup [.ref ra, .int (ft : Nat)]) hT
      have hL2 := sT _ _ hL
      have r2 := sT _ _ r1
      have s2 := Same.trans s1 sT
      have hTT : upd H1 T (.tup [.ref ra, .int (ft : Nat)]) T = some (.tup [.ref ra, .int (ft : Nat)]) := upd_same
      generalize upd H1 T (.tup [.ref ra, .int (ft : Nat)]) = H2 at s2 hL2 r2 hTT ⊢
      refine ⟨T, _, rfl, SqT.of hTT, rfl, _, _, rfl, _, _, rfl, rfl, rfl, ?_⟩
      refine ⟨_, rfl, ra, rfl, ⟨_, SqT.of r2⟩, ?_⟩
      refine walk_tup (K := K) (a := ra) (xs := rr.map Pt.v) (fun j H' => Same H H' ∧ H' D = some (.lst ((usedP (fs.take i) (later.take i) ++ (if ft = 1 then rr.take j else [])).map Pt.v)) ∧ H' ra = some (.tup (rr.map Pt.v))) ⟨s2, ?_, r2⟩ (fun j H' _ h => SqT.of h.2.2) ?_ ?_
      · have e : (if ft = 1 then rr.take 0 else ([] : Rc)) = [] := by split <;> rfl
        rw [e, List.append_nil]
        exact hL2
      · rintro j v H3 hj ⟨s3, hL3, r3⟩
        obtain ⟨q, hq, rfl⟩ : ∃ q, rr[j]? = some q ∧ v = Pt.v q := by
          rw [List.getElem?_map] at hj
          cases e : rr[j]? with
          | none =>
            rw [e] at hj
            cases hj
          | some z =>
            rw [e] at hj
            exact ⟨z, rfl, (Option.some.inj hj).symm⟩
        refine ⟨rfl, _, rfl, rfl, _, rfl, ?_⟩
        by_cases c : ft = 1
        · subst c
          refine iteT' (decide_eq_true rfl) ⟨_, rfl, _, hL3, ?_, Same.put s3 hD, ?_, ?_⟩
          · rw [List.length_map, List.length_append, if_pos rfl]
            have u1 := used_len2 (l := later) i (fun r hr => (hf.each r hr).len)
            have u2 : (rr.take j).length ≤ 5 := by rw [List.length_take]; omega
            exact Nat.lt_of_le_of_lt (show _ ≤ 300 by omega) (by decide)
          · rw [upd_same, if_pos rfl, if_pos rfl, List.take_add_one, hq, ← List.append_assoc]
            simp only [List.map_append]
            rfl
          · rw [upd_ne (ne_of r3 hL3 (by intro z; cases z))]
            exact r3
        · have c2 : ¬ (V.int (ft : Nat) = V.int 1) := fun z => c (by have q := V.int.inj z; omega)
          refine iteF' (decide_eq_false c2) ⟨s3, ?_, r3⟩
          rw [if_neg c]
          rw [if_neg c] at hL3
          exact hL3
      · rintro H3 ⟨s3, hL3, _⟩
        refine ⟨s3, ?_⟩
        rw [step]
        have e : (rr.map Pt.v).length = rr.length := List.length_map ..
        rw [e, List.take_length] at hL3
        exact hL3
    · rintro H1 ⟨s1, hL⟩
      rw [lx, List.take_length, ← ll, List.take_length] at hL
      refine ⟨_, rfl, a, _, rfl, .inr (SqT.of (s1 _ _ a1)), _, rfl, by omega, by omega, fun D2 hD2 => ?_⟩
      refine lc_range (lo := 0) (n := (xs.length : Int).toNat) (fun i H' => Same H1 H' ∧ H' D2 = some (.lst (((iN (befF fs later)).map V.int).take i))) ⟨same_new hD2, by rw [upd_same, List.take_zero]⟩ ?_ ?_
      · rintro i H2 hi ⟨s2, hL2⟩
        have iB : i < fs.length := by
          rw [Int.toNat_natCast, lx] at hi
          exact hi
        have hat : ((iN (befF fs later)).map V.int)[i]? = some (V.int ((fateOf fs later i : Nat) : Int)) := by
          unfold iN befF
          rw [List.map_map, List.map_map, List.getElem?_map, List.getElem?_range iB]
          rfl
        refine ⟨rfl, _, rfl, _, rfl, D, _, rfl, .inl (SqL.of (s2 _ _ hL)), rfl, flat_parts _, .inr ⟨_, rfl, _, hL2, ?_, Same.put s2 hD2, ?_⟩⟩
        · rw [List.length_take]
          refine Nat.lt_of_le_of_lt (Nat.min_le_left _ _) (Nat.lt_of_lt_of_le (show i < 50 by omega) (by decide))
        · rw [upd_same, List.take_add_one, hat]
          have e0 : (0 : Int) + (i : Int) = ((i : Nat) : Int) := Int.zero_add _
          show some (HO.lst (_ ++ [V.int (if inV (.int (0 + (i : Int))) ((usedP fs later).map Pt.v) = true then 1 else 0)])) = _
          rw [e0, inV_parts, ← used_fate fs later i hf.nd ll hlo.2]
          by_cases c : i ∈ bufs (usedP fs later)
          · rw [if_pos (decide_eq_true c), if_pos c]
            rfl
          · rw [if_neg (by rw [decide_eq_false c]; exact Bool.false_ne_true), if_neg c]
            rfl
      · rintro H2 ⟨s2, hL2⟩
        have el : ((iN (befF fs later)).map V.int).length = fs.length := by
          unfold iN befF
          rw [List.length_map, List.length_map, List.length_map, List.length_range]
        rw [Int.toNat_natCast, lx, List.take_of_length_le (Nat.le_of_eq el)] at hL2
        exact ⟨D2, _, rfl, .inl ⟨SqL.of hL2, fun u hu => k _ _ (Same.trans (Same.trans s1 s2) (same_new hu)) (tp_word upd_same)⟩⟩
end

section
variable {P : Program} {w : World} {K : PySem.W.Frag} {mg : Str → Option Value} {base : Heap} {f : Addr} {fd : FuncData}
theorem cal_entries (F : C8.Def K mg "entries_along" st_entries_along_ f fd) (b : Binds K fd ["writer", "word"] []) : Cal P w K mg base 1 "entries_along" spEntries [] := by
  refine cal0 F b .nil sc_entries (fun vs H Q E h => ?_) (fun cdv A outer s H vs Q E hr h => ?_)
  · obtain ⟨a, t, W, ns, k, S, B, st, es, rfl, _⟩ := h
    rfl
  · obtain ⟨a, t, W, ns, kk, S, Bf, st0, es0, rfl, ha, ht, hW, hS, hns, hln, hwk, k⟩ := h
    obtain ⟨wa, wx, rfl, w1, w2⟩ := ha.tup_inv
    cases w2 with
    | @cons vb x3 _ _ tb w3 =>
    cases w3 with
    | @cons vr x4 _ _ tr w4 =>
    obtain ⟨ra, rx, rfl, tr1, tr2⟩ := tr.tup_inv
    obtain ⟨t, rfl, ht1⟩ := ht.word_inv
    refine ⟨_, pss_cons (ps_set (i := 2) sc_entries.nd rfl (Or.inl rfl) pe_int)
      (pss_cons (ps_set (i := 3) sc_entries.nd rfl (Or.inl rfl) (pe_lst pa_nil))
      (pss_cons (ps_for PassesOwn.never rfl (pi_tup (pv 1)) (pg_name (i := 4) sc_entries.nd rfl (Or.inl rfl))
        (pss_cons (ps_set (i := 5) sc_entries.nd rfl (Or.inl rfl) (pe_ix ix_tup (pe_ix ix_tup (pe_ix ix_tup (pv 0) pe_int (fun _ _ => rfl)) (pv 2) (fun _ _ => rfl)) (pv 4) (fun _ _ => rfl)))
        (pss_cons (ps_expr (pe_bm PySem.F.plainAttrs_list PySem.F.slot_list_append PySem.F.type_list_append mt_append (pv 3) (pa_cons (pv 5) pa_nil)))
        (pss_one (ps_set (i := 2) sc_entries.nd rfl (Or.inl rfl) (pe_ix ix_tup (pv 5) pe_int (fun _ _ => rfl)))))))
      (pss_one (ps_ret (pv 3))))), ?_⟩
    refine ⟨Nat.zero_le _, fun L hL => ?_⟩
    have s0 := same_new (o := .lst []) hL
    refine ⟨_, rfl, t, rfl, ⟨_, SqT.of (s0 _ _ ht1)⟩, for_tup (K := K) (a := t) (xs := (iN ns).map V.int) (fun i σ H' => Same H H' ∧ ∃ (st : Nat) (es : List Ent2) (v4 v5 : Option V), walkE W (ns.take i) = some (st, es) ∧ LAt H' L (es.map entP) ∧ σ = [some (.ref wa), some (.ref t), some (.int st), some (.ref L), v4, v5])
      ⟨s0, 0, [], none, none, rfl, ⟨[], upd_same, .nil⟩, rfl⟩ (fun i σ H' _ h => SqT.of (h.1 _ _ ht1)) ?_ ?_⟩
    · rintro i x σ H1 hi ⟨s1, st, es, v4, v5, er, ⟨us, hu, au⟩, rfl⟩
      obtain ⟨kd, hkd, rfl⟩ : ∃ kd, ns[i]? = some kd ∧ x = V.int (kd : Nat) := by
        unfold iN at hi
        rw [List.map_map, List.getElem?_map] at hi
        cases e : ns[i]? with
        | none =>
          rw [e] at hi
          cases hi
        | some y =>
          rw [e] at hi
          exact ⟨y, rfl, (Option.some.inj hi).symm⟩
      have hk := hns kd (List.mem_of_getElem? hkd)
      obtain ⟨so, sl⟩ := walk_ok hW hS (ns := ns.take i) (fun j hj => hns j (List.mem_of_mem_take hj)) er
      obtain ⟨row, en, g1, g2, g3, g4⟩ := ent_at hW so.lt hk
      obtain ⟨rv, y1, y2⟩ := tr2.at g1
      obtain ⟨rwa, rws, rfl, y3, y4⟩ := y2.tup_inv
      obtain ⟨ev, y5, y6⟩ := y4.at g2
      have step : walkE W (ns.take (i + 1)) = addE es en := by
        rw [walk_more W hkd, er]
        exact congrArg (addE es) g3
      have some' : addE es en ≠ none := by
        intro z
        have e2 : walkE W ns = (ns.drop (i + 1)).foldl (stepE W) (walkE W (ns.take (i + 1))) := by
          unfold walkE
          rw [← List.foldl_append, List.take_append_drop]
        rw [e2, step, z, foldE_none] at hwk
        cases hwk
      cases en with
      | none => exact absurd rfl some'
      | some y =>
        obtain ⟨tg, fs⟩ := y
        have y6' := y6
        obtain ⟨ea, ex, rfl, y7, y8⟩ := y6.tup_inv
        cases y8 with
        | @cons vtg x9 _ _ z1 z2 =>
        obtain rfl := z1.int_inv
        have few : us.length ≤ 1000 := by
          rw [au.len, List.length_map, sl, List.length_take]
          omega
        refine ⟨_, rfl, wa, _, _, _, rfl, rfl, SqT.of (s1 _ _ w1), atI_nat (j := 1) rfl, _, rfl, ra, rx, _, _, rfl, rfl, SqT.of (s1 _ _ tr1), atI_nat y1, _, rfl, rwa, rws, _, _, rfl, rfl, SqT.of (s1 _ _ y3), atI_nat y5, ?_⟩
        refine ⟨_, rfl, .inl ⟨rfl, _, SqL.of hu⟩, _, rfl, L, _, _, rfl, rfl, hu, Nat.lt_of_le_of_lt few (by decide), ?_⟩
        have lp := LAt.push hu au (d := entP (tg, fs)) (x := .ref ea) (y6'.mono (Same.tk s1))
        have sP : Same H (upd H1 L (.lst (us ++ [.ref ea]))) := Same.put s1 hL
        have en7 := sP _ _ y7
        refine ⟨_, rfl, ea, _, _, _, rfl, rfl, SqT.of en7, atI_nat (j := 0) rfl, sP, tg, es ++ [(tg, fs)], _, _, step, ?_, rfl⟩
        rw [List.map_append]
        exact lp
    · rintro σ H1 ⟨s1, st, es, v4, v5, er, hLL, rfl⟩
      have e : ((iN ns).map V.int).length = ns.length := by
        unfold iN
        rw [List.length_map, List.length_map]
      rw [e, List.take_length, hwk] at er
      cases er
      exact ⟨_, rfl, k L H1 s1 hLL⟩
theorem cal_fates (F : C8.Def K mg "fates" st_fates_ f fd) (b : Binds K fd ["writer", "word"] []) (B : BN2 mg) (Ct : Cal P w K mg base 5 "text_for" spTell []) (Ce : Cal P w K mg base 1 "entries_along" spEntries []) (Cn : Cal P w K mg base 1 "fates_at_end" spAtEnd []) (Cb : Cal P w K mg base 1 "fates_before" spBefore []) : Cal P w K mg base 6 "fates" spFates [] := by
  refine cal0 F b .nil sc_fates (fun vs H Q E h => ?_) (fun cdv A outer s H vs Q E hr h => ?_)
  · obtain ⟨a, t, W, ns, k, S, B, rfl, _⟩ := h
    rfl
  · obtain ⟨a, t, W, ns, kk, S, Bf, rfl, ha, ht, hW, hS, h50, hns, hln, k⟩ := h
    refine ⟨_, pss_cons (ps_if (pt_cmp (pc_isN (pe_c Ct hr (by decide) (by rfl) (pa_cons (pv 0) (pa_cons (pv 1) pa_nil))))) (pss_one (ps_ret pe_non)) pss_nil)
      (pss_cons (ps_set (i := 2) sc_fates.nd rfl (Or.inl rfl) (pe_c Ce hr (by decide) (by rfl) (pa_cons (pv 0) (pa_cons (pv 1) pa_nil))))
      (pss_cut (ps_set (i := 3) sc_fates.nd rfl (Or.inl rfl) (pe_ifExp (pt_truth (pv 2) (fun _ => rfl)) (pe_ix ix_tup (pe_ix ix_list (pv 2) (pe_un un_neg pe_int) (fun _ _ => rfl)) pe_int (fun _ _ => rfl)) pe_int))
      (pss_cons (ps_set (i := 4) sc_fates.nd rfl (Or.inl rfl) (pe_lst (pa_cons (pe_c Cn hr (by decide) (by rfl) (pa_cons (pv 0) (pa_cons (pv 3) pa_nil))) pa_nil)))
      (pss_cons (ps_for PassesOwn.never rfl (pi_list (pe_revL (pv 2))) (pg_tup rfl (pgs_cons (pg_name (i := 5) sc_fates.nd rfl (Or.inl rfl)) (pgs_cons (pg_name (i := 6) sc_fates.nd rfl (Or.inl rfl)) pgs_nil)))
        (pss_one (ps_expr (pe_bm PySem.F.plainAttrs_list PySem.F.slot_list_append PySem.F.type_list_append mt_append (pv 4) (pa_cons (pe_c Cb hr (by decide) (by rfl) (pa_cons (pv 6) (pa_cons (pe_ix ix_list (pv 4) (pe_un un_neg pe_int) (fun _ _ => rfl)) pa_nil))) pa_nil)))))
      (pss_one (ps_ret (pe_callTy call_tuple_of (by rfl) B.tuple (by decide +kernel) (pa_cons (pe_revL (pv 4)) pa_nil)))))))), ?_⟩
    refine ⟨_, rfl, _, rfl, a, t, W, ns, kk, S, Bf, rfl, ha, ht, hW, hS, h50, hns, hln, fun v H1 s1 tv => ?_⟩
    refine ⟨_, rfl, ?_⟩
    cases et : tellW W ns with
    | none =>
      rw [et] at tv
      obtain rfl := tv.non_inv
      refine iteT' (decide_eq_true rfl) (k _ _ s1 ?_)
      rw [fates_none et]
      exact .non
    | some z =>
      rw [et] at tv
      obtain rfl := tv.str_inv
      refine iteF' (decide_eq_false (fun z => by cases z)) ?_
      obtain ⟨st, es, r, ew, ee⟩ := fates_some et
      have fw : fatesW W ns = some (backF es (endF W.begins.length r)) := by
        unfold fatesW
        rw [ew]
        show (W.ends.getD st none).map _ = _
        rw [ee]
        rfl
      rw [fw] at k
      obtain ⟨so, sl⟩ := walk_ok hW hS hns ew
      refine ⟨_, rfl, _, rfl, a, t, W, ns, kk, S, Bf, st, es, rfl, ha.mono (Same.tk s1), ht.mono (Same.tk s1), hW, hS, hns, hln, ew, fun L H2 s2 hL => ?_⟩
      obtain ⟨us, hu, au⟩ := hL
      have s12 := Same.trans s1 s2
      have ul : us.length = es.length := by rw [au.len, List.length_map]
      refine ⟨fun σ H' => H' = H2 ∧ σ = [some a, some t, some (.ref L), some (.int st), none, none, none], ?_, ?_⟩
      · refine ⟨_, rfl, !us.isEmpty, .inl ⟨us, SqL.of hu, rfl⟩, ?_⟩
        rcases List.eq_nil_or_concat es with e0 | ⟨es', p, e0⟩
        · subst e0
          have u0 : us = [] := List.eq_nil_of_length_eq_zero (by rw [ul]; rfl)
          subst u0
          refine iteF' rfl ⟨rfl, ?_⟩
          have e := so.last
          obtain rfl : st = 0 := e
          rfl
        · have e0' : es = es' ++ [p] := by rw [e0, List.concat_eq_append]
          subst e0'
          have pos : us ≠ [] := fun z => by
            rw [z, List.length_append] at ul
            cases ul
          have ne : us.isEmpty = false := by
            cases us with
            | nil => exact absurd rfl pos
            | cons _ _ => rfl
          rw [ne]
          have el : (es' ++ [p])[es'.length]? = some p := by
            rw [List.getElem?_append_right (Nat.le_refl _), Nat.sub_self]
            rfl
          obtain ⟨v, hv, tv⟩ := au.at el
          obtain ⟨tg, fs⟩ := p
          obtain ⟨ea, ex, rfl, y7, y8⟩ := tv.tup_inv
          cases y8 with
          | @cons vtg x9 _ _ z1 z2 =>
          obtain rfl := z1.int_inv
          have hlast : atI us (-1) = some (.ref ea) := by
            rcases List.eq_nil_or_concat us with z | ⟨us', y, e⟩
            · exact absurd z pos
            · rw [List.concat_eq_append] at e
              rw [e, List.length_append, List.length_append] at ul
              have ul2 : us'.length = es'.length := Nat.succ.inj ul
              rw [e, ← ul2, List.getElem?_append_right (Nat.le_refl _), Nat.sub_self] at hv
              obtain rfl : y = .ref ea := Option.some.inj hv
              rw [e]
              exact atI_last _ _
          refine iteT' rfl ⟨_, rfl, _, rfl, L, _, _, _, rfl, rfl, SqL.of hu, hlast, ea, _, _, _, rfl, rfl, SqT.of y7, atI_nat (j := 0) rfl, rfl, ?_⟩
          have e := so.last
          rw [List.getLast?_concat] at e
          obtain rfl : st = tg := e
          rfl
      · rintro σ H3 ⟨rfl, rfl⟩
        have bl : W.begins.length = Bf := hW.b1
        rw [bl] at k
        have le := endF_ok Bf r
        refine ⟨_, rfl, _, rfl, a, W, st, r, kk, S, Bf, rfl, ha.mono (Same.tk s12), hW, h50, so.lt, ee, fun v H4 s4 tv4 => ⟨(by show 1 ≤ sizeLine; decide), fun F0 hF0 => ?_⟩⟩
        have s5 := Same.trans s4 (same_new (o := .lst [v]) hF0)
        have L0 : LAt (upd H4 F0 (.lst [v])) F0 ([endF Bf r].map wordD) := ⟨_, upd_same, .cons (tv4.mono (tk_new hF0)) .nil⟩
        generalize upd H4 F0 (.lst [v]) = H5 at s5 L0 ⊢
        refine ⟨_, rfl, L, _, rfl, SqL.of (s5 _ _ hu), fun R hR => ?_⟩
        have s6 := Same.trans s5 (same_new (o := .lst us.reverse) hR)
        have hRR : upd H5 R (.lst us.reverse) R = some (.lst us.reverse) := upd_same
        have L1 := L0.same (same_new (o := .lst us.reverse) hR)
        have ar : TpAll (upd H5 R (.lst us.reverse)) us.reverse (es.reverse.map entP) := by
          rw [List.map_reverse]
          exact (au.mono (Same.tk s6)).revl
        have s06 := Same.trans s12 s6
        generalize upd H5 R (.lst us.reverse) = H6 at s06 hRR L1 ar ⊢
        have all := backF_ok (S := S) le
        have F00 : H F0 = none := (Same.trans s12 s4).free hF0
        have nFR : F0 ≠ R := by
          obtain ⟨q1, q2, _⟩ := L0
          exact ne_of_none q2 hR
        refine ⟨R, rfl, ⟨_, SqL.of hRR⟩, for_list (K := K) (a := R) (xs := us.reverse) (fun i σ H' => (∀ b o, b ≠ F0 → H6 b = some o → H' b = some o) ∧ ∃ (v5 v6 : Option V), σ = [some a, some t, some (.ref L), some (.int st), some (.ref F0), v5, v6] ∧ LAt H' F0 (((backF (es.drop (es.length - i)) (endF Bf r)).map wordD).reverse))
          ⟨fun _ _ _ e => e, _, _, rfl, ?_⟩ (fun i σ H' _ h => SqL.of (h.1 _ _ nFR.symm hRR)) ?_ ?_⟩
        · rw [Nat.sub_zero, List.drop_length]
          exact L1
        · rintro i x σ H7 hi ⟨s7, v5, v6, rfl, ws, hw, aw⟩
          have t7 : TK H6 H7 := fun b xs e => by
            by_cases hb : b = F0
            · obtain ⟨q1, q2, _⟩ := L1
              rw [hb, q2] at e
              cases e
            · exact s7 b _ hb e
          have ilt : i < es.length := by
            have q := (List.getElem?_eq_some_iff.mp hi).1
            rw [List.length_reverse, ul] at q
            exact q
          have hre : es.reverse[i]? = some es[es.length - 1 - i] := by
            rw [List.getElem?_reverse ilt]
            exact List.getElem?_eq_getElem (by omega)
          obtain ⟨x', hx', tx⟩ := ar.at hre
          rw [hi] at hx'
          cases hx'
          have e1 : es.length - (i + 1) = es.length - 1 - i := by omega
          have e2 : es.length - 1 - i + 1 = es.length - i := by omega
          have bs := backF_step (es := es) (l := endF Bf r) (i := es.length - 1 - i) (by omega)
          rw [e2] at bs
          have pm := so.each _ (List.getElem_mem (show es.length - 1 - i < es.length by omega))
          generalize es[es.length - 1 - i] = p at *
          obtain ⟨⟨hd, tl, eb, hok⟩, bln, ball⟩ := all (es.drop (es.length - i)) fun p hp => so.each p (List.mem_of_mem_drop hp)
          rw [eb] at bs aw bln
          rw [List.map_cons, List.reverse_cons] at aw
          obtain ⟨tg, fs⟩ := p
          obtain ⟨ea, ex, rfl, y7, y8⟩ := (tx.mono t7).tup_inv
          cases y8 with
          | @cons vtg x9 _ _ z1 z2 =>
          cases z2 with
          | @cons vfs x10 _ _ z3 z4 =>
          cases z4
          obtain rfl := z1.int_inv
          have wl : ws.length = tl.length + 1 := by
            rw [aw.len, List.length_append, List.length_reverse, List.length_map]
            rfl
          obtain ⟨wt, vh, rfl⟩ : ∃ wt vh, ws = wt ++ [vh] := by
            rcases List.eq_nil_or_concat ws with z | ⟨w1, y, e⟩
            · rw [z] at wl
              cases wl
            · exact ⟨w1, y, by rw [e, List.concat_eq_append]⟩
          have wtl : wt.length = tl.length := by
            rw [List.length_append] at wl
            exact Nat.succ.inj wl
          have th : Tp H7 vh (wordD hd) := by
            obtain ⟨y, q1, q2⟩ := aw.get (i := tl.length) (d := wordD hd) (by rw [List.getElem?_append_right (by rw [List.length_reverse, List.length_map]; exact Nat.le_refl _), List.length_reverse, List.length_map, Nat.sub_self]; rfl)
            rw [← wtl, List.getElem?_append_right (Nat.le_refl _), Nat.sub_self] at q1
            obtain rfl : vh = y := Option.some.inj q1
            exact q2
          refine ⟨ea, _, rfl, SqT.of y7, rfl, _, _, rfl, _, _, rfl, rfl, ?_⟩
          refine ⟨_, rfl, .inl ⟨rfl, _, SqL.of hw⟩, _, rfl, _, rfl, _, rfl, F0, _, _, _, rfl, rfl, SqL.of hw, atI_last _ _, vfs, vh, fs, hd, Bf, rfl, z3, th, pm.2, h50, hok, fun v8 H8 s8 tv8 => ?_⟩
          have hw8 := s8 _ _ hw
          have few : (wt ++ [vh]).length ≤ 1001 := by
            have q := bln
            rw [List.length_cons, List.length_drop] at q
            omega
          refine ⟨F0, _, _, rfl, rfl, hw8, Nat.lt_of_le_of_lt few (by decide), ?_⟩
          refine ⟨fun b o hb e => ?_, _, _, rfl, _, upd_same, ?_⟩
          · rw [upd_ne hb]
            exact s8 _ _ (s7 b o hb e)
          · rw [e1, bs, List.map_cons, List.reverse_cons]
            refine TpAll.app ?_ (.cons (tv8.mono (tk_lst hw8)) .nil)
            rw [List.map_cons, List.reverse_cons]
            exact (aw.mono (Same.tk s8)).mono (tk_lst hw8)
        · rintro σ H7 ⟨s7, v5, v6, rfl, ws, hw, aw⟩
          rw [List.length_reverse, ul, Nat.sub_self, List.drop_zero] at aw
          have s07 : Same H H7 := fun b o e => s7 b o (ne_of_none e F00) (s06 _ _ e)
          refine ⟨_, rfl, F0, _, rfl, SqL.of hw, fun R2 hR2 => ?_⟩
          refine ⟨R2, _, rfl, .inl ⟨SqL.of upd_same, fun u hu => k _ _ (Same.trans (Same.trans s07 (same_new hR2)) (same_new hu)) (.tup upd_same ?_)⟩⟩
          have q := aw.revl
          rw [List.reverse_reverse] at q
          exact (q.mono (tk_new hR2)).mono (tk_new hu)
end

/-! ### sorted of a text -/
section
open PySem.Spec PyProof.Rows
theorem strs_of_items {z : Str} : ∀ (acc : List Value) (cs : List Nat), acc.length = cs.length → (∀ (i : Nat) (v : Value), acc[i]? = some v → ∃ (c : Nat) (u : Tok), cs[i]? = some c ∧ v = .str ⟨#[c]⟩ u) → StrsAre acc (cs.map fun c => (⟨#[c]⟩ : Str))
  | [], [], _, _ => .nil
  | [], _ :: _, h, _ => by cases h
  | _ :: _, [], h, _ => by cases h
  | v :: r, c :: cs, h, k => by
    obtain ⟨c', u, e1, e2⟩ := k 0 v rfl
    obtain rfl : c = c' := Option.some.inj e1
    rw [e2]
    exact .cons _ _ (strs_of_items (z := z) r cs (Nat.succ.inj h) fun i v hv => k (i + 1) v hv)
theorem sorted_tx {prog : Program} {w : World} {A : Around} {E : Value → Shared → Prop} {s : Shared} {z : Str} {t : Tok} {Q : Value → Shared → Prop} (hh : A.handled = none) (hn : z.cps.size ≤ sizeLine)
    (h : ∀ (hp h' : Heap) (tk : Nat) (out : List Value) (ys : List Str), StrsAre out ys → ys.Perm (z.cps.toList.map fun c => (⟨#[c]⟩ : Str)) → sortedS ys = true → (∀ b o, s.heap.get? b = some o → hp.get? b = some o) → (∀ b o, hp.get? b = some o → h'.get? b = some o) →
      (∃ n, h'.get? hp.objs.size = some (seqObj "list" out.toArray n)) → Q (.ref hp.objs.size) { s with heap := h', toks := tk }) : wpAny (model prog w) A (call (.builtin "sorted") [.str z t]) Q E s := by
  refine Calls.call_function_entry kind_sorted plain_sorted entry_sorted (args_sorted1 _) ?_
  unfold Builtin.«sorted»
  refine wpAny_bind (m := checkCount "sorted" 1 1 _) (wpAny_pure ?_)
  refine wpAny_bind (wpAny_collect_str (by exact hh) z t (fun s' acc kp eg ed eo items => ?_) hn)
  have lz : acc.toList.length ≤ sizeLine := by
    rw [Array.length_toList, items.1]
    exact hn
  refine wpAny_bind (wpAny_newList ?_ lz)
  have S : StrsAre acc.toList (z.cps.toList.map fun c => (⟨#[c]⟩ : Str)) := by
    refine strs_of_items (z := z) acc.toList z.cps.toList ?_ fun i v hv => ?_
    · rw [Array.length_toList, Array.length_toList]
      exact items.1
    · rw [Array.getElem?_toList] at hv
      obtain ⟨c, u, e1, e2⟩ := items.2 i v hv
      exact ⟨c, u, by rw [Array.getElem?_toList]; exact e1, e2⟩
  obtain ⟨hp, gs, dr, tk, os⟩ := s'
  cases eg
  cases ed
  cases eo
  have hoL : (hp.push (seqObj "list" acc.toList.toArray 0)).get? hp.objs.size = some (seqObj "list" acc.toList.toArray 0) := Heap.get?_push_size _ rfl
  refine wpAny_bind (wpAny_holding (wpAny_call_entry slot_list_sort ⟨_, hoL, rfl⟩ entry_list_sort (list_sort_treeKAny strKind_oneLt hoL S.keysOf (fun v₁ v₂ rest e => keyKind_strs (by rw [← e]; exact S)) lz fun st' a1 a2 => ⟨_, rfl, ?_⟩) (args_list_sort _)))
  obtain ⟨ys, b1, b2, b3⟩ := sorted_out_str S a1 a2
  refine wpAny_pure ⟨_, rfl, ?_⟩
  have hat := sortedHeap_at (out := (arrOf st').map (·.2)) hoL
  exact h hp _ tk ((arrOf st').map (·.2)).toList ys b1 b2 b3 kp (fun b o hb => by
    have lt : b < hp.objs.size := Heap.lt_size hb
    rw [sortedHeap_old (Nat.ne_of_lt lt) (by rw [Heap.size_push]; exact Nat.lt_succ_of_lt lt)]
    exact Heap.get?_push_of_some _ hb) hat
theorem rise_le : ∀ (c : Nat) (r : List Nat), risingS ⟨#[c]⟩ (r.map fun c => (⟨#[c]⟩ : Str)) = true → (c :: r).Pairwise (· ≤ ·)
  | c, [], _ => List.pairwise_singleton _ _
  | c, d :: r, h => by
    have h2 : (!ltCps [d] [c] && risingS ⟨#[d]⟩ (r.map fun c => (⟨#[c]⟩ : Str))) = true := h
    rw [Bool.and_eq_true] at h2
    have le : c ≤ d := by
      have q := h2.1
      rw [ltCps_eq] at q
      have q2 : decide ([d] < [c]) = false := by simpa using q
      have q3 := of_decide_eq_false q2
      rcases Nat.lt_or_ge d c with lt | ge
      · exact absurd (List.Lex.rel lt) q3
      · exact ge
    have ih := rise_le d r h2.2
    refine List.pairwise_cons.mpr ⟨fun y hy => ?_, ih⟩
    rcases List.mem_cons.mp hy with rfl | hy
    · exact le
    · exact Nat.le_trans le ((List.pairwise_cons.mp ih).1 y hy)
theorem sorted_le : ∀ r : List Nat, sortedS (r.map fun c => (⟨#[c]⟩ : Str)) = true → r.Pairwise (· ≤ ·)
  | [], _ => .nil
  | c :: r, h => rise_le c r h
theorem same_sorted : ∀ (l m : List Nat), l.Perm m → l.Pairwise (· ≤ ·) → m.Pairwise (· ≤ ·) → l = m
  | [], m, p, _, _ => (List.nil_perm.mp p).symm
  | a :: l, [], p, _, _ => absurd p.length_eq (by simp)
  | a :: l, b :: m, p, hl, hm => by
    have e : a = b := by
      have h1 : a ∈ b :: m := p.mem_iff.mp List.mem_cons_self
      have h2 : b ∈ a :: l := p.mem_iff.mpr List.mem_cons_self
      rcases List.mem_cons.mp h1 with e | h1
      · exact e
      rcases List.mem_cons.mp h2 with e | h2
      · exact e.symm
      exact Nat.le_antisymm ((List.pairwise_cons.mp hl).1 b h2) ((List.pairwise_cons.mp hm).1 a h1)
    subst e
    rw [same_sorted l m ((List.perm_cons a).mp p) (List.pairwise_cons.mp hl).2 (List.pairwise_cons.mp hm).2]
theorem ones_back : ∀ (ys : List Str) (cs : List Nat), ys.Perm (cs.map fun c => (⟨#[c]⟩ : Str)) → ∃ ds : List Nat, ys = (ds.map fun c => (⟨#[c]⟩ : Str)) ∧ ds.Perm cs := fun ys cs p => by
  have all : ∀ y ∈ ys, ∃ c, y = (⟨#[c]⟩ : Str) := fun y hy => by
    obtain ⟨c, _, e⟩ := List.mem_map.mp (p.mem_iff.mp hy)
    exact ⟨c, e.symm⟩
  have back : ∀ zs : List Str, (∀ y ∈ zs, ∃ c, y = (⟨#[c]⟩ : Str)) → zs = ((zs.map fun y => y.cps.toList.headD 0).map fun c => (⟨#[c]⟩ : Str)) := fun zs h => by
    rw [List.map_map]
    have e : zs.map id = zs.map ((fun c => (⟨#[c]⟩ : Str)) ∘ fun y => y.cps.toList.headD 0) := List.map_congr_left fun y hy => by
      obtain ⟨c, rfl⟩ := h y hy
      rfl
    rw [List.map_id] at e
    exact e
  refine ⟨ys.map fun y => y.cps.toList.headD 0, back ys all, ?_⟩
  have q := p.map fun y : Str => y.cps.toList.headD 0
  rw [List.map_map] at q
  have e : cs.map ((fun y : Str => y.cps.toList.headD 0) ∘ fun c => (⟨#[c]⟩ : Str)) = cs.map id := List.map_congr_left fun c _ => rfl
  rw [e, List.map_id] at q
  exact q
def rSortedTx : List V → Hp → VK → Prop := fun vs H Q => ∃ z : Str, vs = [.str z] ∧ z.length ≤ 1000000 ∧ ∀ (cs : List Nat) (p : Addr), cs.Perm z.cps.toList → cs.Pairwise (· ≤ ·) → H p = none → Q (.ref p) (upd H p (.lst (cs.map fun c => V.str ⟨#[c]⟩)))
theorem cr_sortedTx {X : Cx} (hc : X.calm = true) : CallR X (.builtin "sorted") rSortedTx := by
  intro pins s σ H vs us Q I r h
  obtain ⟨z, rfl, hz, q⟩ := h
  obtain ⟨u, rfl, ru⟩ := vals1 r
  obtain ⟨t, rfl⟩ := ru
  refine sorted_tx (I.ok.hd hc) (Nat.le_trans hz (by decide)) fun hp h' tk out ys k1 k2 k3 k4 k5 k6 => ?_
  obtain ⟨cs, rfl, pc⟩ := ones_back ys _ k2
  obtain ⟨n, hn⟩ := k6
  have free : H hp.objs.size = none := (I.hok.kept k4).fresh (Nat.le_refl _)
  have gone : s.heap.get? hp.objs.size = none := by
    cases e : s.heap.get? hp.objs.size with
    | none => rfl
    | some o => exact absurd (Heap.lt_size (k4 _ _ e)) (Nat.lt_irrefl _)
  have hlen : (cs.map fun c => V.str ⟨#[c]⟩).length ≤ sizeLine := by
    rw [List.length_map, pc.length_eq, Array.length_toList]
    exact Nat.le_trans hz (by decide)
  have ev : ((cs.map fun c => (⟨#[c]⟩ : Str)).map V.str) = cs.map fun c => V.str ⟨#[c]⟩ := by rw [List.map_map]; rfl
  have vs := vals_of_strs k1
  rw [ev] at vs
  exact ⟨.ref _, upd H hp.objs.size (.lst (cs.map fun c => V.str ⟨#[c]⟩)), I.laidN (t' := tk) (fun b o e => k5 b o (k4 b o e)) gone free ⟨hlen, out, n, vs, hn⟩, rfl, q cs _ pc (sorted_le cs k3) free⟩
end

/-! ### the letters of a written text -/
def ltr (z : Str) : List Nat := z.cps.toList
/-- a recipe's pieces -/
def pcs (r : Rc) : List Str := r.filterMap fun q => match q with
  | .s z => some z
  | .b _ => none
theorem pcs_s (z : Str) (r : Rc) : pcs (.s z :: r) = z :: pcs r := rfl
theorem pcs_b (i : Nat) (r : Rc) : pcs (.b i :: r) = pcs r := rfl
theorem pcs_app (a b : Rc) : pcs (a ++ b) = pcs a ++ pcs b := List.filterMap_append
/-- of these texts the ones with fate 1 -/
def sel (xs : List Str) (row : List Nat) : List Str := (xs.zip row).flatMap fun p => if p.2 = 1 then [p.1] else []
theorem sel_cons (z : Str) (xs : List Str) (x : Nat) (row : List Nat) : sel (z :: xs) (x :: row) = (if x = 1 then [z] else []) ++ sel xs row := by
  unfold sel
  rw [List.zip_cons_cons, List.flatMap_cons]
theorem mk_ltr (ts : List Str) (r : Rc) : ltr (mk ts r) = (r.map (ptx ts)).flatMap ltr := by
  unfold mk ltr
  rw [join_cps, List.flatMap_def]
/-- the letters of what a recipe makes: its pieces', and its buffers' -/
theorem rc_ltr (ts : List Str) : ∀ r : Rc, ((r.map (ptx ts)).flatMap ltr).Perm ((pcs r).flatMap ltr ++ (bufs r).flatMap fun b => ltr (ts.getD b ""))
  | [] => .nil
  | .s z :: r => by
    have e : bufs (.s z :: r) = bufs r := by
      unfold bufs
      rw [List.flatMap_cons]
      rfl
    rw [e, pcs_s, List.map_cons, List.flatMap_cons, List.flatMap_cons, List.append_assoc]
    exact (rc_ltr ts r).append_left _
  | .b i :: r => by
    have e : bufs (.b i :: r) = i :: bufs r := by
      unfold bufs
      rw [List.flatMap_cons]
      rfl
    rw [e, pcs_b, List.map_cons, List.flatMap_cons, List.flatMap_cons]
    refine ((rc_ltr ts r).append_left (ltr (ts.getD i ""))).trans ?_
    rw [← List.append_assoc, ← List.append_assoc]
    exact List.perm_append_comm.append_right _
theorem sel_row (g : Nat → Nat) : ∀ (ts : List Str) (k : Nat), (sel ts ((List.range' k ts.length).map g)).flatMap ltr = ((List.range' k ts.length).filter fun b => decide (g b = 1)).flatMap fun b => ltr (ts.getD (b - k) "")
  | [], k => rfl
  | z :: ts, k => by
    rw [List.length_cons, List.range'_succ, List.map_cons, sel_cons, List.flatMap_append, sel_row g ts (k + 1), List.filter_cons]
    have e : ((List.range' (k + 1) ts.length).filter fun b => decide (g b = 1)).flatMap (fun b => ltr (ts.getD (b - (k + 1)) "")) = ((List.range' (k + 1) ts.length).filter fun b => decide (g b = 1)).flatMap fun b => ltr ((z :: ts).getD (b - k) "") := by
      rw [List.flatMap_def, List.flatMap_def]
      refine congrArg List.flatten (List.map_congr_left fun b hb => ?_)
      have hk := (List.mem_range'_1.mp (List.mem_filter.mp hb).1).1
      have e2 : b - k = (b - (k + 1)) + 1 := by omega
      rw [e2, List.getD_cons_succ]
    rw [e]
    by_cases h : g k = 1
    · rw [if_pos h, decide_eq_true h, if_pos rfl, List.flatMap_cons, List.flatMap_cons, List.flatMap_nil, List.append_nil, Nat.sub_self]
      rfl
    · rw [if_neg h, decide_eq_false h, if_neg Bool.false_ne_true]
      rfl
theorem rc_sel {ts : List Str} {r : Rc} (nd : (bufs r).Nodup) (lt : ∀ i ∈ bufs r, i < ts.length) :
    ((r.map (ptx ts)).flatMap ltr).Perm ((pcs r).flatMap ltr ++ (sel ts ((List.range ts.length).map fun b => if b ∈ bufs r then 1 else 0)).flatMap ltr) := by
  refine (rc_ltr ts r).trans (List.Perm.append_left _ ?_)
  rw [List.range_eq_range', sel_row]
  have p : (bufs r).Perm ((List.range' 0 ts.length).filter fun b => decide ((if b ∈ bufs r then 1 else 0) = 1)) := by
    refine (List.perm_ext_iff_of_nodup nd (List.Pairwise.filter _ List.nodup_range')).mpr fun b => ?_
    rw [List.mem_filter, List.mem_range'_1]
    constructor
    · intro h
      refine ⟨⟨Nat.zero_le _, by have := lt b h; omega⟩, ?_⟩
      rw [if_pos h]
      rfl
    · rintro ⟨_, h⟩
      by_cases c : b ∈ bufs r
      · exact c
      · rw [if_neg c] at h
        exact absurd h (by decide)
  exact p.flatMap_right _
theorem sel_fills (ts : List Str) : ∀ (fs : List Rc) (l : List Nat), (sel (fs.map (mk ts)) l).flatMap ltr = ((usedP fs l).map (ptx ts)).flatMap ltr
  | [], l => rfl
  | f :: fs, [] => rfl
  | f :: fs, x :: l => by
    rw [List.map_cons, sel_cons, used_cons, List.flatMap_append, List.map_append, List.flatMap_append, sel_fills ts fs l]
    by_cases h : x = 1
    · rw [if_pos h, if_pos h, List.flatMap_cons, List.flatMap_nil, List.append_nil, mk_ltr]
    · rw [if_neg h, if_neg h]
      rfl
theorem used_nd : ∀ (fs : List Rc) (l : List Nat), (fs.flatMap bufs).Nodup → (bufs (usedP fs l)).Nodup
  | [], l, _ => by
    have e : usedP [] l = [] := by cases l <;> rfl
    rw [e]
    exact List.nodup_nil
  | f :: fs, [], _ => List.nodup_nil
  | f :: fs, x :: l, nd => by
    rw [List.flatMap_cons, List.nodup_append] at nd
    rw [used_cons, bufs_app]
    by_cases h : x = 1
    · rw [if_pos h]
      exact List.nodup_append.mpr ⟨nd.1, used_nd fs l nd.2.1, fun a ha b hb => nd.2.2 a ha b (used_sub fs l b hb)⟩
    · rw [if_neg h]
      exact used_nd fs l nd.2.1
/-- one step back -/
theorem step_back {B : Nat} {fs : List Rc} {ts : List Str} {l : List Nat} (h : FOk B fs) (ht : ts.length = B) (hl : rowOk B l) :
    ((sel (fs.map (mk ts)) l).flatMap ltr).Perm ((pcs (usedP fs l)).flatMap ltr ++ (sel ts (befF fs l)).flatMap ltr) := by
  rw [sel_fills]
  have e : befF fs l = (List.range ts.length).map fun b => if b ∈ bufs (usedP fs l) then 1 else 0 := by
    unfold befF
    rw [h.len, ht]
    exact List.map_congr_left fun b _ => (used_fate fs l b h.nd (by rw [hl.1, h.len]) hl.2).symm
  rw [e]
  exact rc_sel (used_nd fs l h.nd) fun i hi => by rw [ht]; exact h.lt i (used_sub fs l i hi)
def txE (ts : List Str) (es : List Ent2) : List Str := es.foldl (fun ts e => e.2.map (mk ts)) ts
/-- the pieces behind which the buffers have fate 1 -/
def pcsE : List Ent2 → List (List Nat) → List Str
  | e :: es, row :: rows => pcs (usedP e.2 row) ++ pcsE es rows
  | _, _ => []
theorem back_all {B : Nat} {l : List Nat} (hl : rowOk B l) : ∀ (es : List Ent2) (ts : List Str), (∀ p ∈ es, FOk B p.2) → ts.length = B → ∃ h t, backF es l = h :: t ∧ rowOk B h ∧ t.length = es.length ∧
    ((sel (txE ts es) l).flatMap ltr).Perm ((pcsE es t).flatMap ltr ++ (sel ts h).flatMap ltr)
  | [], ts, _, _ => ⟨l, [], rfl, hl, rfl, List.Perm.refl _⟩
  | e :: es, ts, he, ht => by
    have fo := he e List.mem_cons_self
    have ht2 : (e.2.map (mk ts)).length = B := by rw [List.length_map]; exact fo.len
    obtain ⟨h, t, q1, q2, q3, q4⟩ := back_all hl es (e.2.map (mk ts)) (fun p hp => he p (List.mem_cons_of_mem _ hp)) ht2
    refine ⟨befF e.2 h, h :: t, ?_, befF_ok fo.len q2, by rw [List.length_cons, q3]; rfl, ?_⟩
    · show befF e.2 ((backF es l).headD []) :: backF es l = _
      rw [q1]
      rfl
    · show ((sel (txE (e.2.map (mk ts)) es) l).flatMap ltr).Perm ((pcs (usedP e.2 h) ++ pcsE es t).flatMap ltr ++ _)
      refine q4.trans ?_
      rw [List.flatMap_append]
      refine ((step_back fo ht q2).append_left _).trans ?_
      rw [← List.append_assoc]
      exact List.perm_append_comm.append_right _
theorem run_walk (W : Wr) (ns : List Nat) : ∀ st es, walkE W ns = some (st, es) → runW W ns = some (st, txE W.begins es) := by
  have main : ∀ (l : List Nat) (o : Option (Nat × List Ent2)) (o' : Option (Nat × List Str)), o' = o.map (fun p => (p.1, txE W.begins p.2)) → l.foldl (stepW W) o' = (l.foldl (stepE W) o).map fun p => (p.1, txE W.begins p.2) := by
    intro l
    induction l with
    | nil => exact fun o o' h => h
    | cons k r ih =>
      intro o o' h
      rw [List.foldl_cons, List.foldl_cons]
      refine ih _ _ ?_
      subst h
      cases o with
      | none => rfl
      | some x =>
        obtain ⟨st, es⟩ := x
        show goE (txE W.begins es) ((W.rules.getD st []).getD k none) = (addE es ((W.rules.getD st []).getD k none)).map _
        cases (W.rules.getD st []).getD k none with
        | none => rfl
        | some y =>
          obtain ⟨t, fs⟩ := y
          show some (t, fs.map (mk (txE W.begins es))) = some (t, txE W.begins (es ++ [(t, fs)]))
          unfold txE
          rw [List.foldl_append]
          rfl
  intro st es h
  have q := main ns (some (0, [])) (some (0, W.begins)) rfl
  show ns.foldl (stepW W) (some (0, W.begins)) = _
  rw [q]
  show (walkE W ns).map _ = _
  rw [h]
  rfl
/-- the letters of a written text -/
theorem told_letters {k S B : Nat} {W : Wr} (h : WOk k S B W) (hS : 1 ≤ S) {ns : List Nat} (hn : ∀ i ∈ ns, i < k) {z : Str} (hz : tellW W ns = some z) : ∃ st es r hd tl, walkE W ns = some (st, es) ∧ W.ends.getD st none = some r ∧ st < S ∧ es.length = ns.length ∧
    fatesW W ns = some (hd :: tl) ∧ tl.length = ns.length ∧ rowOk B hd ∧ (∀ row ∈ tl, rowOk B row) ∧ ((sel W.begins hd ++ pcsE es tl ++ pcs r).flatMap ltr).Perm (ltr z) := by
  obtain ⟨st, es, r, e1, e2⟩ := fates_some hz
  obtain ⟨so, sl⟩ := walk_ok h hS hn e1
  have ro := endF_ok W.begins.length r
  rw [h.b1] at ro
  obtain ⟨hd, tl, q1, q2, q3, q4⟩ := back_all ro es W.begins (fun p hp => (so.each p hp).2) h.b1
  have ef : fatesW W ns = some (hd :: tl) := by
    unfold fatesW
    rw [e1]
    show (W.ends.getD st none).map _ = _
    rw [e2, h.b1]
    exact congrArg some q1
  refine ⟨st, es, r, hd, tl, e1, e2, so.lt, sl, ef, by rw [q3, sl], q2, ?_, ?_⟩
  · obtain ⟨_, _, b3⟩ := backF_ok (S := S) ro es so.each
    rw [q1] at b3
    exact fun row hr => b3 row (List.mem_cons_of_mem _ hr)
  · have et : z = mk (txE W.begins es) r := by
      unfold tellW at hz
      rw [run_walk W ns st es e1] at hz
      have hz' : (match W.ends.getD st none with | none => none | some r => some (mk (txE W.begins es) r)) = some z := hz
      rw [e2] at hz'
      exact (Option.some.inj hz').symm
    have eo : EOk B r := by
      have lt : st < W.ends.length := by rw [h.e1]; exact so.lt
      have q := e2
      rw [List.getD_eq_getElem?_getD, List.getElem?_eq_getElem lt] at q
      exact h.e2 _ (List.getElem_mem lt) r q
    have lt : (txE W.begins es).length = B := by
      have main : ∀ (es : List Ent2) (ts : List Str), (∀ p ∈ es, FOk B p.2) → ts.length = B → (txE ts es).length = B := by
        intro es
        induction es with
        | nil => exact fun ts _ h => h
        | cons e es ih => exact fun ts he ht => ih _ (fun p hp => he p (List.mem_cons_of_mem _ hp)) (by rw [List.length_map]; exact (he e List.mem_cons_self).len)
      exact main es _ (fun p hp => (so.each p hp).2) h.b1
    rw [et, mk_ltr]
    refine List.Perm.symm ((rc_sel eo.nd fun i hi => by rw [lt]; exact eo.lt i hi).trans ?_)
    rw [List.flatMap_append, List.flatMap_append, lt]
    refine List.perm_append_comm.trans ?_
    refine List.Perm.append_right _ ?_
    exact q4.trans List.perm_append_comm

/-! ### the law's letters -/
def spPieces : Sp := fun vs H Q _ => ∃ (x : V) (r : Rc), vs = [x] ∧ Tp H x r.d ∧ r.length ≤ 1000 ∧ ∀ (L : Addr) H', Same H H' → H L = none → H' L = some (.lst ((pcs r).map V.str)) → Q (.ref L) H'
theorem sc_pieces : FnScope ["recipe", "part"] ["recipe"] (fnScope st_law_pieces) := fnScope_by (by decide +kernel)
theorem pcs_len : ∀ r : Rc, (pcs r).length ≤ r.length
  | [] => Nat.le_refl _
  | .s z :: r => by
    rw [pcs_s]
    exact Nat.succ_le_succ (pcs_len r)
  | .b i :: r => by
    rw [pcs_b]
    exact Nat.le_succ_of_le (pcs_len r)
theorem pcs_take {r : Rc} {i : Nat} {q : Pt} (h : r[i]? = some q) : pcs (r.take (i + 1)) = pcs (r.take i) ++ pcs [q] := by
  rw [List.take_add_one, h]
  exact pcs_app _ _
theorem sel_take {xs : List Str} {row : List Nat} {i : Nat} {z : Str} {x : Nat} (h : xs[i]? = some z) (h2 : row[i]? = some x) : sel (xs.take (i + 1)) (row.take (i + 1)) = sel (xs.take i) (row.take i) ++ (if x = 1 then [z] else []) := by
  unfold sel
  have e : (xs.take (i + 1)).zip (row.take (i + 1)) = (xs.take i).zip (row.take i) ++ [(z, x)] := by
    rw [List.take_add_one, List.take_add_one, h, h2]
    have l1 : (xs.take i).length = (row.take i).length := by
      have a := (List.getElem?_eq_some_iff.mp h).1
      have b := (List.getElem?_eq_some_iff.mp h2).1
      rw [List.length_take, List.length_take]
      omega
    exact List.zip_append l1
  rw [e, List.flatMap_append, List.flatMap_cons, List.flatMap_nil, List.append_nil]
theorem pcsE_snoc : ∀ (es : List Ent2) (rows : List (List Nat)) (e : Ent2) (row : List Nat), es.length = rows.length → pcsE (es ++ [e]) (rows ++ [row]) = pcsE es rows ++ pcs (usedP e.2 row)
  | [], [], e, row, _ => by
    show pcs (usedP e.2 row) ++ [] = _
    rw [List.append_nil]
    rfl
  | [], _ :: _, _, _, h => by cases h
  | _ :: _, [], _, _, h => by cases h
  | a :: es, b :: rows, e, row, h => by
    show pcs (usedP a.2 b) ++ pcsE (es ++ [e]) (rows ++ [row]) = pcs (usedP a.2 b) ++ pcsE es rows ++ _
    rw [pcsE_snoc es rows e row (Nat.succ.inj h), List.append_assoc]
theorem lens_ltr (ys : List Str) : (ys.map (·.length)).sum = (ys.flatMap ltr).length := by
  induction ys with
  | nil => rfl
  | cons y r ih =>
    have e : y.length = (ltr y).length := by
      show y.cps.size = y.cps.toList.length
      rw [Array.length_toList]
    rw [List.map_cons, List.sum_cons, List.flatMap_cons, List.length_append, ih, e]
section
variable {P : Program} {w : World} {K : PySem.W.Frag} {mg : Str → Option Value} {base : Heap} {f : Addr} {fd : FuncData}
theorem cal_pieces (F : C8.Def K mg "_law_pieces" st_law_pieces f fd) (b : Binds K fd ["recipe"] []) (B : BN2 mg) : Cal P w K mg base 1 "_law_pieces" spPieces [] := by
  refine cal0 F b .nil sc_pieces (fun vs H Q E h => ?_) (fun cdv A outer s H vs Q E hr h => ?_)
  · obtain ⟨x, r, rfl, _⟩ := h
    rfl
  · obtain ⟨x, r, rfl, hx, hl, k⟩ := h
    obtain ⟨a, rfl, h1⟩ := hx.rc_inv
    refine ⟨_, pss_one (ps_ret (pe_lc (own := [("part", 1)]) (g := gName 1) (tt := tB (tCB (rIsi K) (tCons (tVar 1) (tCons (tC (.ty "str")) tNil)))) (by rfl) sc_pieces.nd (pi_tup (pv 0))
      (blkOk_by (own := [("part", 1)]) (N := ["recipe", "part"]) (sc := fnScope st_law_pieces) (by decide +kernel)) (fun _ _ _ _ _ => pg_name (i := 1) sc_pieces.nd rfl (Or.inl rfl))
      (fun _ _ _ _ _ => pts_one (pt_val (pe_callB (isiK K) (by rfl) B.isi (by decide +kernel) (pa_cons (pv 1) (pa_cons (pe_bltn (v := .ty "str") (by rfl) B.str (by decide +kernel) rfl) pa_nil))))) (fun _ _ _ _ _ => pv 1))), ?_⟩
    refine ⟨_, rfl, a, rfl, ⟨_, SqT.of h1⟩, fun D hD => ?_⟩
    refine lc_tup (K := K) (a := a) (xs := r.map Pt.v) (fun i H' => Same H H' ∧ H' D = some (.lst ((pcs (r.take i)).map V.str))) ⟨same_new hD, upd_same⟩ (fun i H' _ h => SqT.of (h.1 _ _ h1)) ?_ ?_
    · rintro i x H1 hi ⟨s1, hL⟩
      obtain ⟨q, hq, rfl⟩ : ∃ q, r[i]? = some q ∧ x = Pt.v q := by
        rw [List.getElem?_map] at hi
        cases e : r[i]? with
        | none =>
          rw [e] at hi
          cases hi
        | some y =>
          rw [e] at hi
          exact ⟨y, rfl, (Option.some.inj hi).symm⟩
      obtain ⟨ty, tb, t1, t2, t3, t4⟩ := isi_pt (K := K) (H := H1) q
      refine ⟨rfl, _, rfl, q.v, _, ty, _, tb, rfl, .ty _, t1, t2, _, rfl, ?_⟩
      cases tb with
      | true =>
        obtain ⟨z, rfl⟩ := t3 rfl
        refine iteT ⟨_, rfl, _, hL, ?_, Same.put s1 hD, ?_⟩
        · rw [List.length_map]
          have a1 := pcs_len (r.take i)
          rw [List.length_take] at a1
          exact Nat.lt_of_le_of_lt (show _ ≤ 1000 by omega) (by decide)
        · rw [upd_same, pcs_take hq, List.map_append]
          rfl
      | false =>
        obtain ⟨j, rfl⟩ := t4 rfl
        refine iteF ⟨s1, ?_⟩
        rw [pcs_take hq]
        show H1 D = some (.lst ((pcs (r.take i) ++ []).map V.str))
        rw [List.append_nil]
        exact hL
    · rintro H1 ⟨s1, hL⟩
      rw [List.length_map, List.take_length] at hL
      exact k D H1 s1 hD hL
end

structure LL (H : Hp) (W : Wr) (ns : List Nat) (a t u : V) (kk S B : Nat) (st : Nat) (es : List Ent2) (r : Rc) (hd : List Nat) (tl : List (List Nat)) (z : Str) : Prop where
  ha : Tp H a W.d
  ht : Tp H t (wordD ns)
  hu : Tp H u (.tuple ((hd :: tl).map wordD))
  hW : WOk kk S B W
  hS : 1 ≤ S
  h50 : B ≤ 50
  hn : ∀ i ∈ ns, i < kk
  hl : ns.length ≤ 1000
  walk : walkE W ns = some (st, es)
  fin : W.ends.getD st none = some r
  stl : st < S
  tlen : tl.length = ns.length
  hrow : rowOk B hd
  trow : ∀ row ∈ tl, rowOk B row
  perm : ((sel W.begins hd ++ pcsE es tl ++ pcs r).flatMap ltr).Perm (ltr z)
  few : z.length ≤ 100000
def spLLet : Sp := fun vs H Q _ => ∃ (W : Wr) (ns : List Nat) (a t u : V) (kk S B st : Nat) (es : List Ent2) (r : Rc) (hd : List Nat) (tl : List (List Nat)) (z : Str), vs = [a, t, u] ∧ LL H W ns a t u kk S B st es r hd tl z ∧
  ∀ (cs : List Nat) (p : Addr) H', cs.Perm (ltr z) → cs.Pairwise (· ≤ ·) → Same H H' → H' p = some (.lst (cs.map fun c => V.str ⟨#[c]⟩)) → Q (.ref p) H'
def nLL : List Str := ["writer", "word", "told", "found", "state", "at", "kind", "entry", "buffer", "fill", "text", "fate"]
theorem sc_lletters : FnScope nLL ["writer", "word", "told"] (fnScope st_law_letters) := fnScope_by (by decide +kernel)
theorem sel_len : ∀ (xs : List Str) (row : List Nat), (sel xs row).length ≤ xs.length
  | [], row => by
    have e : sel [] row = [] := rfl
    rw [e]
    exact Nat.le_refl _
  | z :: xs, [] => Nat.zero_le _
  | z :: xs, x :: row => by
    rw [sel_cons, List.length_append, List.length_cons]
    have := sel_len xs row
    split
    · rw [List.length_singleton]
      omega
    · rw [List.length_nil]
      omega
theorem word_at {ns : List Nat} {i : Nat} {x : V} (h : ((iN ns).map V.int)[i]? = some x) : ∃ y, ns[i]? = some y ∧ x = V.int (y : Nat) := by
  unfold iN at h
  rw [List.map_map, List.getElem?_map] at h
  cases e : ns[i]? with
  | none =>
    rw [e] at h
    cases h
  | some y =>
    rw [e] at h
    exact ⟨y, rfl, (Option.some.inj h).symm⟩
theorem word_of {ns : List Nat} {i y : Nat} (h : ns[i]? = some y) : ((iN ns).map V.int)[i]? = some (V.int (y : Nat)) := by
  unfold iN
  rw [List.map_map, List.getElem?_map, h]
  rfl
theorem word_len (ns : List Nat) : ((iN ns).map V.int).length = ns.length := by
  unfold iN
  rw [List.length_map, List.length_map]
section
variable {P : Program} {w : World} {K : PySem.W.Frag} {mg : Str → Option Value} {base : Heap} {f : Addr} {fd : FuncData}
theorem cal_lletters (F : C8.Def K mg "_law_letters" st_law_letters f fd) (b : Binds K fd ["writer", "word", "told"] []) (B : BN2 mg) (Bz : mg "zip" = none) (Be : mg "enumerate" = none) (Bs : mg "sorted" = none) (Cp : Cal P w K mg base 1 "_law_pieces" spPieces []) : Cal P w K mg base 2 "_law_letters" spLLet [] := by
  refine cal0 F b .nil sc_lletters (fun vs H Q E h => ?_) (fun cdv A outer s H vs Q E hr h => ?_)
  · obtain ⟨W, ns, a, t, u, kk, S, B, st, es, r, hd, tl, z, rfl, _⟩ := h
    rfl
  · obtain ⟨W, ns, a, t, u, kk, S, Bw, st, es, r, hd, tl, z, rfl, h, k⟩ := h
    obtain ⟨wa, wx, rfl, w1, w2⟩ := h.ha.tup_inv
    cases w2 with
    | @cons vb x3 _ _ tb w3 =>
    cases w3 with
    | @cons vr x4 _ _ tr w4 =>
    cases w4 with
    | @cons ve x5 _ _ te w5 =>
    cases w5
    obtain ⟨ba, bx, rfl, b1, b2⟩ := tb.tup_inv
    obtain rfl := tpAll_strs b2
    obtain ⟨ra, rx, rfl, tr1, tr2⟩ := tr.tup_inv
    obtain ⟨ea, ex, rfl, te1, te2⟩ := te.tup_inv
    obtain ⟨ta, rfl, ht1⟩ := h.ht.word_inv
    obtain ⟨ua, ux, rfl, u1, u2⟩ := h.hu.tup_inv
    have u2' := u2
    cases u2 with
    | @cons v0 xs0 _ _ t0 _ =>
    obtain ⟨ha, rfl, ha1⟩ := t0.word_inv
    have lb := h.hW.b1
    refine ⟨_, pss_cons (ps_setLc (i := 3) (own := [("text", 10), ("fate", 11)]) (g := gTup K 2 (gCons (gName 10) (gCons (gName 11) gNil))) (tt := tTest (tOp rEq (tVar 11) (tC (.int 1)))) (by rfl) sc_lletters.nd rfl rfl (sw_true rfl rfl rfl (by decide +kernel))
        (RZ.pi_zipA rfl Bz (pa_cons (pe_ix ix_tup (pv 0) pe_int (fun _ _ => rfl)) (pa_cons (pe_ix ix_tup (pv 2) pe_int (fun _ _ => rfl)) pa_nil)))
        (blkOk_by (own := [("text", 10), ("fate", 11)]) (N := nLL) (sc := fnScope st_law_letters) (by decide +kernel))
        (fun _ _ _ _ _ => pg_tupK K rfl (pgs_cons (pg_name (i := 10) sc_lletters.nd rfl (Or.inl rfl)) (pgs_cons (pg_name (i := 11) sc_lletters.nd rfl (Or.inl rfl)) pgs_nil)))
        (fun _ _ _ _ _ => pts_one (pt_cmpR op_eq (pv 11) pe_int (nomark _))) (fun _ _ _ _ _ => pv 10))
      (pss_cons (ps_set (i := 4) sc_lletters.nd rfl (Or.inl rfl) pe_int)
      (pss_cons (ps_for PassesOwn.never rfl (ET.pi_enumT rfl Be (pa_cons (pv 1) pa_nil)) (pg_tup rfl (pgs_cons (pg_name (i := 5) sc_lletters.nd rfl (Or.inl rfl)) (pgs_cons (pg_name (i := 6) sc_lletters.nd rfl (Or.inl rfl)) pgs_nil)))
        (pss_cons (ps_set (i := 7) sc_lletters.nd rfl (Or.inl rfl) (pe_ix ix_tup (pe_ix ix_tup (pe_ix ix_tup (pv 0) pe_int (fun _ _ => rfl)) (pv 4) (fun _ _ => rfl)) (pv 6) (fun _ _ => rfl)))
        (pss_cons (ps_for PassesOwn.never rfl (ET.pi_enumT rfl Be (pa_cons (pe_ix ix_tup (pv 7) pe_int (fun _ _ => rfl)) pa_nil)) (pg_tup rfl (pgs_cons (pg_name (i := 8) sc_lletters.nd rfl (Or.inl rfl)) (pgs_cons (pg_name (i := 9) sc_lletters.nd rfl (Or.inl rfl)) pgs_nil)))
          (pss_one (ps_if (pt_cmpR op_eq (pe_ix ix_tup (pe_ix ix_tup (pv 2) (pe_op op_add (pv 5) pe_int) (fun _ _ => rfl)) (pv 8) (fun _ _ => rfl)) pe_int (nomark _))
            (pss_one (ps_set (i := 3) sc_lletters.nd rfl (Or.inl rfl) (pe_op op_cat (pv 3) (pe_c Cp hr (by decide) (by rfl) (pa_cons (pv 9) pa_nil))))) pss_nil)))
        (pss_one (ps_set (i := 4) sc_lletters.nd rfl (Or.inl rfl) (pe_ix ix_tup (pv 7) pe_int (fun _ _ => rfl)))))))
      (pss_one (ps_ret (pe_callB (cr_sortedTx (by rfl)) (by rfl) Bs (by decide +kernel) (pa_cons (pe_join pe_str (pe_op op_cat (pv 3) (pe_c Cp hr (by decide) (by rfl) (pa_cons (pe_ix ix_tup (pe_ix ix_tup (pv 0) pe_int (fun _ _ => rfl)) (pv 4) (fun _ _ => rfl)) pa_nil)))) pa_nil)))))), ?_⟩
    have lhd : hd.length = W.begins.length := by rw [h.hrow.1, lb]
    have lz : (W.begins.map V.str).length = ((iN hd).map V.int).length := by rw [word_len, List.length_map, lhd]
    have h50 := h.h50
    refine ⟨_, rfl, wa, _, _, _, rfl, rfl, SqT.of w1, atI_nat (j := 0) rfl, _, rfl, ua, _, _, _, rfl, rfl, SqT.of u1, atI_nat (j := 0) rfl, ba, ha, _, _, rfl, .inr ⟨SqT.of b1, SqT.of ha1, fun D hD => ?_⟩⟩
    refine walk_zipT (K := K) (a := ba) (b := ha) (xs := W.begins.map V.str) (ys := (iN hd).map V.int) lz (fun i H' => Same H H' ∧ H' D = some (.lst ((sel (W.begins.take i) (hd.take i)).map V.str))) ⟨same_new hD, upd_same⟩ (fun i H' h => ⟨SqT.of (h.1 _ _ b1), SqT.of (h.1 _ _ ha1)⟩) ?_ ?_
    · rintro i x y T H1 hx hy ⟨s1, hL⟩ hT
      have ilt : i < W.begins.length := by
        have q := (List.getElem?_eq_some_iff.mp hx).1
        rw [List.length_map] at q
        exact q
      have hzi := List.getElem?_eq_getElem ilt
      obtain rfl : V.str W.begins[i] = x := by
        rw [List.getElem?_map, hzi] at hx
        exact Option.some.inj hx
      obtain ⟨y0, hy0, rfl⟩ := word_at hy
      have step := sel_take hzi hy0
      have few := sel_len (W.begins.take i) (hd.take i)
      rw [List.length_take] at few
      generalize W.begins[i] = zi at step hx ⊢
      have sT := same_new (o := .tup [.str zi, .int (y0 : Nat)]) hT
      have hL2 := sT _ _ hL
      have hTT : upd H1 T (.tup [.str zi, .int (y0 : Nat)]) T = some (.tup [.str zi, .int (y0 : Nat)]) := upd_same
      have s2 := Same.trans s1 sT
      generalize upd H1 T (.tup [.str zi, .int (y0 : Nat)]) = H2 at s2 hL2 hTT ⊢
      refine ⟨T, _, rfl, SqT.of hTT, rfl, _, _, rfl, _, _, rfl, rfl, rfl, _, rfl, rfl, _, rfl, ?_⟩
      by_cases e : y0 = 1
      · rw [if_pos e] at step
        refine iteT' (decide_eq_true (by rw [e]; rfl)) ⟨_, rfl, _, hL2, ?_, Same.put s2 hD, ?_⟩
        · rw [List.length_map]
          exact Nat.lt_of_le_of_lt (show _ ≤ 50 by omega) (by decide)
        · rw [upd_same, step, List.map_append]
          rfl
      · rw [if_neg e, List.append_nil] at step
        refine iteF' (decide_eq_false fun z => e (by have q := V.int.inj z; omega)) ⟨s2, ?_⟩
        rw [step]
        exact hL2
    rintro H1 ⟨s1, hL1⟩
    have eb : sel (W.begins.take (W.begins.map V.str).length) (hd.take (W.begins.map V.str).length) = sel W.begins hd := by
      rw [List.length_map, List.take_length, List.take_of_length_le (Nat.le_of_eq lhd)]
    rw [eb] at hL1
    have few0 := sel_len W.begins hd
    refine ⟨_, rfl, ta, _, rfl, SqT.of (s1 _ _ ht1), for_enumT (K := K) (a := ta) (xs := (iN ns).map V.int) (fun i σ H' => Same H H' ∧ ∃ (st' : Nat) (es' : List Ent2) (L : Addr) (fo : List Str) (v5 v6 v7 v8 v9 : Option V), walkE W (ns.take i) = some (st', es') ∧ H' L = some (.lst (fo.map V.str)) ∧ fo = sel W.begins hd ++ pcsE es' (tl.take i) ∧ fo.length ≤ 50 + 250 * i ∧
      σ = [some (.ref wa), some (.ref ta), some (.ref ua), some (.ref L), some (.int st'), v5, v6, v7, v8, v9, none, none]) ⟨s1, 0, [], D, sel W.begins hd, none, none, none, none, none, rfl, hL1, (by rw [List.take_zero]; exact (List.append_nil _).symm), by omega, rfl⟩ (fun i σ H' h => SqT.of (h.1 _ _ ht1)) ?_ ?_⟩
    · rintro i x T σ H2 hx ⟨s2, st', es', L, fo, v5, v6, v7, v8, v9, er, hL, hfo, lfo, rfl⟩ hT
      obtain ⟨kd, hkd, rfl⟩ := word_at hx
      have ilt := (List.getElem?_eq_some_iff.mp hkd).1
      have hk := h.hn kd (List.mem_of_getElem? hkd)
      have hl1000 := h.hl
      obtain ⟨so, sl⟩ := walk_ok h.hW h.hS (ns := ns.take i) (fun j hj => h.hn j (List.mem_of_mem_take hj)) er
      obtain ⟨row0, en, g1, g2, g3, g4⟩ := ent_at h.hW so.lt hk
      obtain ⟨rv, y1, y2⟩ := tr2.at g1
      obtain ⟨rwa, rws, rfl, y3, y4⟩ := y2.tup_inv
      obtain ⟨ev, y5, y6⟩ := y4.at g2
      have step : walkE W (ns.take (i + 1)) = addE es' en := by
        rw [walk_more W hkd, er]
        exact congrArg (addE es') g3
      have some' : addE es' en ≠ none := by
        intro z
        have e2 : walkE W ns = (ns.drop (i + 1)).foldl (stepE W) (walkE W (ns.take (i + 1))) := by
          unfold walkE
          rw [← List.foldl_append, List.take_append_drop]
        have hw := h.walk
        rw [e2, step, z, foldE_none] at hw
        cases hw
      cases en with
      | none => exact absurd rfl some'
      | some y =>
        obtain ⟨tg, fs⟩ := y
        obtain ⟨_, fo1⟩ := g4 tg fs rfl
        obtain ⟨ena, enx, rfl, y7, y8⟩ := y6.tup_inv
        cases y8 with
        | @cons vtg x9 _ _ z1 z2 =>
        obtain rfl := z1.int_inv
        cases z2 with
        | @cons vf x10 _ _ z3 z4 =>
        cases z4
        obtain ⟨fa, fx, rfl, f1, f2⟩ := z3.tup_inv
        have lfx : fx.length = fs.length := by rw [f2.len, List.length_map]
        have tlt : i < tl.length := by rw [h.tlen]; exact ilt
        have htl := List.getElem?_eq_getElem tlt
        have hro := h.trow _ (List.getElem_mem tlt)
        obtain ⟨uv, q1, q2⟩ := u2'.at (show (hd :: tl)[i + 1]? = some tl[i] by rw [List.getElem?_cons_succ]; exact htl)
        obtain ⟨rowa, rfl, q3⟩ := q2.word_inv
        generalize tl[i] = row at htl hro q2 q3
        have sT := same_new (o := .tup [.int (i : Nat), .int (kd : Nat)]) hT
        have hL3 := sT _ _ hL
        have hTT : upd H2 T (.tup [.int (i : Nat), .int (kd : Nat)]) T = some (.tup [.int (i : Nat), .int (kd : Nat)]) := upd_same
        have s3 := Same.trans s2 sT
        generalize upd H2 T (.tup [.int (i : Nat), .int (kd : Nat)]) = H3 at s3 hL3 hTT ⊢
        refine ⟨T, _, rfl, SqT.of hTT, rfl, _, _, rfl, _, _, rfl, rfl, ?_⟩
        refine ⟨_, rfl, wa, _, _, _, rfl, rfl, SqT.of (s3 _ _ w1), atI_nat (j := 1) rfl, _, rfl, ra, rx, _, _, rfl, rfl, SqT.of (s3 _ _ tr1), atI_nat y1, _, rfl, rwa, rws, _, _, rfl, rfl, SqT.of (s3 _ _ y3), atI_nat y5, ?_⟩
        refine ⟨_, rfl, ena, _, _, _, rfl, rfl, SqT.of (s3 _ _ y7), atI_nat (j := 1) rfl, fa, _, rfl, SqT.of (s3 _ _ f1), for_enumT (K := K) (a := fa) (xs := fx) (fun j σ H' => Same H H' ∧ ∃ (L : Addr) (v8 v9 : Option V), H' L = some (.lst ((fo ++ pcs (usedP (fs.take j) (row.take j))).map V.str)) ∧ (pcs (usedP (fs.take j) (row.take j))).length ≤ 5 * j ∧
          σ = [some (.ref wa), some (.ref ta), some (.ref ua), some (.ref L), some (.int st'), some (.int (i : Nat)), some (.int (kd : Nat)), some (.ref ena), v8, v9, none, none]) ⟨s3, L, v8, v9, ?_, ?_, rfl⟩ (fun j σ H' h => SqT.of (h.1 _ _ f1)) ?_ ?_⟩
        · have e : usedP (fs.take 0) (row.take 0) = [] := rfl
          rw [e]
          show H3 L = some (.lst ((fo ++ []).map V.str))
          rw [List.append_nil]
          exact hL3
        · exact Nat.le_refl _
        · rintro j x T2 σ H4 hx4 ⟨s4, L4, w8, w9, hL4, l4, rfl⟩ hT2
          have jlt : j < fs.length := by
            have q := (List.getElem?_eq_some_iff.mp hx4).1
            omega
          have hfj := List.getElem?_eq_getElem jlt
          obtain ⟨x', hx', tx⟩ := f2.at hfj
          rw [hx4] at hx'
          cases hx'
          obtain ⟨rra, rfl, rr1⟩ := tx.rc_inv
          have jrow : j < row.length := by rw [hro.1, ← fo1.len]; exact jlt
          have hrj := List.getElem?_eq_getElem jrow
          have five := (fo1.each _ (List.getElem_mem jlt)).len
          have step2 := used_take hfj hrj
          have jB : j < 50 := by
            have := fo1.len
            omega
          generalize fs[j] = rr at step2 five rr1 tx hfj
          generalize row[j] = xb at step2 hrj
          have sT2 := same_new (o := .tup [.int (j : Nat), .ref rra]) hT2
          have hL5 := sT2 _ _ hL4
          have hTT2 : upd H4 T2 (.tup [.int (j : Nat), .ref rra]) T2 = some (.tup [.int (j : Nat), .ref rra]) := upd_same
          have s5 := Same.trans s4 sT2
          generalize upd H4 T2 (.tup [.int (j : Nat), .ref rra]) = H5 at s5 hL5 hTT2 ⊢
          refine ⟨T2, _, rfl, SqT.of hTT2, rfl, _, _, rfl, _, _, rfl, rfl, ?_⟩
          refine ⟨_, rfl, _, rfl, _, _, rfl, rfl, ua, _, _, _, rfl, rfl, SqT.of (s5 _ _ u1), (show atI (V.ref ha :: xs0) ((i : Int) + 1) = some _ from atI_nat (j := i + 1) q1), _, rfl, rowa, _, _, _, rfl, rfl, SqT.of (s5 _ _ q3), atI_nat (word_of hrj), rfl, _, rfl, ?_⟩
          by_cases e : xb = 1
          · rw [if_pos e, ] at step2
            refine iteT' (decide_eq_true (by rw [e]; rfl)) ?_
            refine ⟨_, rfl, _, rfl, .ref rra, rr, rfl, tx.mono (Same.tk s5), Nat.le_trans five (by decide), fun Pp H6 s6 p0 hP => ?_⟩
            have pl := pcs_len rr
            refine ⟨L4, Pp, _, _, rfl, rfl, s6 _ _ hL5, hP, ?_, fun lc hlc => ?_⟩
            · rw [List.length_map, List.length_map, List.length_append]
              exact Nat.le_trans (show _ ≤ 1000000 by omega) (by decide)
            · refine ⟨Same.trans (Same.trans s5 s6) (same_new hlc), lc, _, _, ?_, ?_, rfl⟩
              · rw [upd_same, step2, pcs_app]
                simp only [List.map_append, List.append_assoc]
              · rw [step2, pcs_app, List.length_append]
                omega
          · rw [if_neg e, List.append_nil] at step2
            refine iteF' (decide_eq_false fun z => e (by have q := V.int.inj z; omega)) ⟨s5, L4, _, _, ?_, ?_, rfl⟩
            · rw [step2]
              exact hL5
            · rw [step2]
              omega
        · rintro σ H4 ⟨s4, L4, w8, w9, hL4, l4, rfl⟩
          have e1 : fs.take fx.length = fs := List.take_of_length_le (by omega)
          have e2 : row.take fx.length = row := List.take_of_length_le (by rw [hro.1, ← fo1.len, lfx]; exact Nat.le_refl _)
          have fx50 : fx.length ≤ 50 := by
            have := fo1.len
            omega
          rw [e1, e2] at hL4 l4
          refine ⟨_, rfl, ena, _, _, _, rfl, rfl, SqT.of (s4 _ _ y7), atI_nat (j := 0) rfl, s4, tg, es' ++ [(tg, fs)], L4, _, _, _, _, _, _, step, hL4, ?_, ?_, rfl⟩
          · have lt2 : es'.length = (tl.take i).length := by
              rw [sl, List.length_take, List.length_take, h.tlen]
            have et : tl.take (i + 1) = tl.take i ++ [row] := by
              rw [List.take_add_one, htl]
              rfl
            rw [et, pcsE_snoc es' (tl.take i) (tg, fs) row lt2, hfo, List.append_assoc]
          · rw [List.length_append]
            omega
    · rintro σ H2 ⟨s2, st', es', L, fo, v5, v6, v7, v8, v9, er, hL, hfo, lfo, rfl⟩
      rw [word_len, List.take_length, h.walk] at er
      cases er
      rw [word_len, ← h.tlen, List.take_length] at hfo
      have hl1000 := h.hl
      rw [word_len] at lfo
      obtain ⟨e, e1, e2, e3⟩ := end_at h.hW h.stl
      rw [h.fin] at e2
      cases e2
      have six := (e3 r rfl).ok.len
      obtain ⟨ev, y5, y6⟩ := te2.at e1
      have pl := pcs_len r
      refine ⟨⟨_, rfl⟩, ?_⟩
      refine ⟨_, rfl, _, rfl, wa, _, _, _, rfl, rfl, SqT.of (s2 _ _ w1), atI_nat (j := 2) rfl, _, rfl, ea, ex, _, _, rfl, rfl, SqT.of (s2 _ _ te1), atI_nat y5, ev, r, rfl, y6.mono (Same.tk s2), Nat.le_trans six (by decide), fun Pp H3 s3 p0 hP => ?_⟩
      refine ⟨L, Pp, _, _, rfl, rfl, s3 _ _ hL, hP, ?_, fun lc hlc => ?_⟩
      · rw [List.length_map, List.length_map]
        exact Nat.le_trans (show _ ≤ 1000000 by omega) (by decide)
      have pz : ((fo ++ pcs r).flatMap ltr).Perm (ltr z) := by
        rw [hfo]
        exact h.perm
      have few := h.few
      have lz2 : ((fo ++ pcs r).flatMap ltr).length = z.length := by
        rw [pz.length_eq]
        show z.cps.toList.length = z.cps.size
        rw [Array.length_toList]
      have hLc : upd H3 lc (.lst (fo.map V.str ++ (pcs r).map V.str)) lc = some (.lst ((fo ++ pcs r).map V.str)) := by rw [upd_same, List.map_append]
      have ej : (Txt.join "" (fo ++ pcs r)).cps.toList = (fo ++ pcs r).flatMap ltr := by
        rw [join_cps, List.flatMap_def]
        rfl
      refine ⟨_, lc, fo ++ pcs r, rfl, rfl, .inl (SqL.of hLc), ?_, _, rfl, ?_, fun cs q pc sc q0 => ?_⟩
      · rw [lens_ltr, lz2]
        have e0 : (("" : Str)).length = 0 := by decide
        rw [e0]
        omega
      · rw [join_len, lens_ltr, lz2]
        omega
      · rw [ej] at pc
        exact k cs q _ (pc.trans pz) sc (Same.trans (Same.trans (Same.trans s2 s3) (same_new hlc)) (same_new q0)) upd_same
end

/-! ### the law of letters -/
theorem tell_low {k S B : Nat} {W : Wr} (h : WOk k S B W) (hS : 1 ≤ S) {ns : List Nat} (hns : ∀ i ∈ ns, i < k) {z : Str} (e : tellW W ns = some z) : (∀ c ∈ ltr z, 97 ≤ c ∧ c ≤ 122) ∧ z.length ≤ 12 + (2 * B + 10 * B * ns.length) := by
  cases er : runW W ns with
  | none =>
    rw [tell_none er] at e
    cases e
  | some o =>
    obtain ⟨st, ts⟩ := o
    have so := run_ok h hS hns st ts er
    obtain ⟨e0, e1, e2, e3⟩ := end_at h so.st
    rw [tell_some er, e2] at e
    cases e0 with
    | none => cases e
    | some r =>
      have q := e3 r rfl
      obtain rfl : mk ts r = z := Option.some.inj e
      refine ⟨mk_low so.low q.ok.low, ?_⟩
      have a := mk_end q so.len
      have b := so.tot
      omega
def onesD (cs : List Nat) : PyData := .list (cs.map fun c => .str ⟨#[c]⟩)
theorem dp_ones {K : PySem.W.Frag} {H : Hp} : ∀ cs : List Nat, DpAll K H (cs.map fun c => V.str ⟨#[c]⟩) (cs.map fun c => PyData.str ⟨#[c]⟩)
  | [] => .nil
  | c :: r => .cons (.str _) (dp_ones r)
theorem eqv_ones : ∀ cs : List Nat, PyData.eqvAll (cs.map fun c => PyData.str ⟨#[c]⟩) (cs.map fun c => PyData.str ⟨#[c]⟩) = true
  | [] => by simp only [List.map_nil, PyData.eqvAll]
  | c :: r => by simp only [List.map_cons, PyData.eqvAll, PyData.eqv, eqv_ones r, beq_self_eq_true, Bool.and_self]
theorem eq_ones (cs : List Nat) : PyData.eqv (onesD cs) (onesD cs) = true := by
  unfold onesD
  simp only [PyData.eqv, eqv_ones]
theorem shap_ones {cs : List Nat} (h : ∀ c ∈ cs, 97 ≤ c ∧ c ≤ 122) : SeqAt.shaped (onesD cs) = true := by
  have q : NeatAll 0 (cs.length * (1 + 1)) (cs.map fun c => PyData.str ⟨#[c]⟩) := neatAll_map fun c hc => (neat_str (z := ⟨#[c]⟩) (low_strOk fun d hd => by
    obtain rfl : d = c := by simpa using hd
    exact h _ hc)).le (Nat.le_refl _) (Nat.le_refl _)
  have n := q.lst
  unfold SeqAt.shaped
  have dd := n.dep
  show (PyData.canLay0 (onesD cs) && decide (PyData.depth (onesD cs) ≤ 64)) = true
  have e1 : PyData.canLay0 (onesD cs) = true := n.lay
  rw [e1, decide_eq_true (show PyData.depth (onesD cs) ≤ 64 from Nat.le_trans dd (by decide))]
  rfl
theorem isi_tup {K : PySem.W.Frag} {H : Hp} {a : Addr} {xs : List V} (h : H a = some (.tup xs)) : ∃ t : Value, TyX K H (.ref a) t ∧ PySem.W.kitOne K t (.type "tuple") = some true := ⟨_, .base (.tup h), kit_ty (by decide +kernel)⟩
theorem isi_str {K : PySem.W.Frag} {H : Hp} (z : Str) : ∃ t : Value, TyX K H (.str z) t ∧ PySem.W.kitOne K t (.type "str") = some true := ⟨_, .base (.str z), kit_ty (by decide +kernel)⟩
def spRight44 : Sp := fun vs H Q _ => ∃ (a t : V) (W : Wr) (ns : List Nat) (k S B : Nat), vs = [a, t] ∧ Tp H a W.d ∧ Tp H t (wordD ns) ∧ WOk k S B W ∧ 1 ≤ S ∧ B ≤ 3 ∧ (∀ i ∈ ns, i < k) ∧ ns.length ≤ 12 ∧ ∀ H', Same H H' → Q (.bl true) H'
theorem sc_right44 : FnScope ["writer", "word", "told", "text", "row"] ["writer", "word"] (fnScope st_law_right) := fnScope_by (by decide +kernel)
def spLaw (K : PySem.W.Frag) : Sp := fun vs H Q _ => ∃ (a : Addr) (ns : List Int), vs = [.ref a] ∧ SqL K H a (ns.map V.int) ∧ ∀ H', Q (.bl true) H'
def nLaw44 : List Str := ["script", "pen", "turn", "kinds", "words", "writer", "word", "lap"]
theorem sc_law : FnScope nLaw44 ["script"] (fnScope st_law_) := fnScope_by (by decide +kernel)
section
variable {P : Program} {w : World} {K : PySem.W.Frag} {mg : Str → Option Value} {base : Heap} {f : Addr} {fd : FuncData}
theorem cal_right44 (F : C8.Def K mg "_law_right" st_law_right f fd) (b : Binds K fd ["writer", "word"] []) (B : BN2 mg) (Bs : mg "sorted" = none) (Cf : Cal P w K mg base 6 "fates" spFates []) (Ct : Cal P w K mg base 5 "text_for" spTell []) (Clt : Cal P w K mg base 4 "_law_told" spTell [])
    (Cl : Cal P w K mg base 2 "_law_letters" spLLet []) : Cal P w K mg base 7 "_law_right" spRight44 [] := by
  refine cal0 F b .nil sc_right44 (fun vs H Q E h => ?_) (fun cdv A outer s H vs Q E hr h => ?_)
  · obtain ⟨a, t, W, ns, k, S, B, rfl, _⟩ := h
    rfl
  · obtain ⟨a, t, W, ns, kk, S, Bw, rfl, ha, ht, hW, hS, h3, hns, hln, k⟩ := h
    refine ⟨_, pss_cons (ps_par (i := 2) (j := 3) rfl sc_right44.nd rfl rfl (by decide) rfl rfl (pa_cons (pe_c Cf hr (by decide) (by rfl) (pa_cons (pv 0) (pa_cons (pv 1) pa_nil))) (pa_cons (pe_c Ct hr (by decide) (by rfl) (pa_cons (pv 0) (pa_cons (pv 1) pa_nil))) pa_nil)) (by rfl))
      (pss_cons (ps_if (pt_cmp (pc_isN (pe_c Clt hr (by decide) (by rfl) (pa_cons (pv 0) (pa_cons (pv 1) pa_nil))))) (pss_one (ps_ret (pe_and (pe_cmp (pc_isN (pv 2)) rfl) (pe_one (pe_cmp (pc_isN (pv 3)) rfl))))) pss_nil)
      (pss_cons (ps_if (PW.pt (pw_or (pt_not (pt_val (pe_callB call_isi (by rfl) B.isi (by decide +kernel) (pa_cons (pv 2) (pa_cons (pe_bltn (v := .ty "tuple") (by rfl) B.tuple (by decide +kernel) rfl) pa_nil)))))
          (pw_or (pt_cmpR op_ne (pe_callB call_len_seq (by rfl) B.len PySem.boot_len (pa_cons (pv 2) pa_nil)) (pe_op op_add (pe_callB call_len_seq (by rfl) B.len PySem.boot_len (pa_cons (pv 1) pa_nil)) pe_int) (nomark _))
          (pw_or1 (pt_not (pt_val (pe_callB call_isi (by rfl) B.isi (by decide +kernel) (pa_cons (pv 3) (pa_cons (pe_bltn (v := .ty "str") (by rfl) B.str (by decide +kernel) rfl) pa_nil))))))))) (pss_one (ps_ret pe_bl)) pss_nil)
      (pss_cons (ps_for PassesOwn.never rfl (pi_tup (pv 2)) (pg_name (i := 4) sc_right44.nd rfl (Or.inl rfl))
        (pss_one (ps_if (PW.pt (pw_or (pt_not (pt_val (pe_callB call_isi (by rfl) B.isi (by decide +kernel) (pa_cons (pv 4) (pa_cons (pe_bltn (v := .ty "tuple") (by rfl) B.tuple (by decide +kernel) rfl) pa_nil)))))
          (pw_or1 (pt_cmpR op_ne (pe_callB call_len_seq (by rfl) B.len PySem.boot_len (pa_cons (pv 4) pa_nil)) (pe_callB call_len_seq (by rfl) B.len PySem.boot_len (pa_cons (pe_ix ix_tup (pv 0) pe_int (fun _ _ => rfl)) pa_nil)) (nomark _))))) (pss_one (ps_ret pe_bl)) pss_nil)))
      (pss_one (ps_ret (pe_cmpR (op_eqD hr.units) (pe_c Cl hr (by decide) (by rfl) (pa_cons (pv 0) (pa_cons (pv 1) (pa_cons (pv 2) pa_nil)))) (pe_callB (cr_sortedTx (by rfl)) (by rfl) Bs (by decide +kernel) (pa_cons (pv 3) pa_nil)) (nomark _))))))), ?_⟩
    have h50 : Bw ≤ 50 := by omega
    have l1000 : ns.length ≤ 1000 := by omega
    refine ⟨_, rfl, _, rfl, a, t, W, ns, kk, S, Bw, rfl, ha, ht, hW, hS, h50, hns, l1000, fun v1 H1 s1 tv1 => ?_⟩
    refine ⟨_, rfl, _, rfl, a, t, W, ns, kk, S, Bw, rfl, ha.mono (Same.tk s1), ht.mono (Same.tk s1), hW, hS, h50, hns, l1000, fun v2 H2 s2 tv2 => ⟨_, _, rfl, ?_⟩⟩
    have s12 := Same.trans s1 s2
    refine ⟨_, rfl, _, rfl, a, t, W, ns, kk, S, Bw, rfl, ha.mono (Same.tk s12), ht.mono (Same.tk s12), hW, hS, h50, hns, l1000, fun v3 H3 s3 tv3 => ⟨_, rfl, ?_⟩⟩
    have s13 := Same.trans s12 s3
    cases ez : tellW W ns with
    | none =>
      rw [ez] at tv2 tv3
      rw [fates_none ez] at tv1
      obtain rfl := tv1.non_inv
      obtain rfl := tv2.non_inv
      obtain rfl := tv3.non_inv
      refine iteT' (decide_eq_true rfl) ⟨_, rfl, _, rfl, iteT' (decide_eq_true rfl) ⟨_, rfl, ?_⟩⟩
      have e0 : decide (V.non = V.non) = true := decide_eq_true rfl
      show Q (V.bl (decide (V.non = V.non))) H3
      rw [e0]
      exact k _ s13
    | some z =>
      obtain ⟨st, es, r, hd, tl, e1, e2, e3, e4, e5, e6, e7, e8, e9⟩ := told_letters hW hS hns ez
      obtain ⟨low, lenz⟩ := tell_low hW hS hns ez
      rw [ez] at tv2 tv3
      rw [e5] at tv1
      obtain rfl : v2 = .str z := tv2.str_inv
      obtain rfl : v3 = .str z := tv3.str_inv
      have tu : Tp H1 v1 (.tuple ((hd :: tl).map wordD)) := tv1
      obtain ⟨ua, ux, rfl, u1, u2⟩ := tu.tup_inv
      obtain ⟨wa, ba, bx, wx, rfl, w1, w2, w3, w4⟩ : ∃ (wa ba : Addr) (bx wx : List V), a = .ref wa ∧ H wa = some (.tup wx) ∧ wx[0]? = some (.ref ba) ∧ H ba = some (.tup bx) ∧ bx.length = Bw := by
        obtain ⟨a', xs, rfl, h1, h2⟩ := ha.tup_inv
        cases h2 with
        | @cons vb x2 _ _ tb h2 =>
        obtain ⟨ba, bx, rfl, b1, b2⟩ := tb.tup_inv
        exact ⟨a', ba, bx, _, rfl, h1, rfl, b1, by rw [b2.len, List.length_map]; exact hW.b1⟩
      obtain ⟨ta, rfl, ht1⟩ := ht.word_inv
      have s23 := Same.trans s2 s3
      refine iteF' (decide_eq_false fun q => by cases q) ?_
      obtain ⟨ty1, i1, i2⟩ := isi_tup (K := K) (s23 _ _ u1)
      obtain ⟨ty2, i3, i4⟩ := isi_str (K := K) (H := H3) z
      refine ⟨_, rfl, .ref ua, _, ty1, _, true, rfl, .ty _, i1, i2, _, rfl, iteF ?_⟩
      have lu : ux.length = ns.length + 1 := by rw [u2.len, List.length_map, List.length_cons, e6]
      refine ⟨_, rfl, ua, _, rfl, .inr (SqT.of (s23 _ _ u1)), _, rfl, ta, _, rfl, .inr (SqT.of (s13 _ _ ht1)), _, _, rfl, rfl, rfl, _, rfl, ?_⟩
      refine iteF' ?_ ?_
      · rw [lu, word_len, decide_eq_true (by rfl)]
        rfl
      refine ⟨_, rfl, .str z, _, ty2, _, true, rfl, .ty _, i3, i4, _, rfl, iteF ?_⟩
      refine ⟨_, rfl, ua, rfl, ⟨_, SqT.of (s23 _ _ u1)⟩, for_tup (K := K) (a := ua) (xs := ux) (fun i σ H' => Same H3 H' ∧ ∃ v4 : Option V, σ = [some (.ref wa), some (.ref ta), some (.ref ua), some (.str z), v4]) ⟨Same.refl _, _, rfl⟩ (fun i σ H' _ h => SqT.of (h.1 _ _ (s23 _ _ u1))) ?_ ?_⟩
      · rintro i x σ H4 hi ⟨s4, v4, rfl⟩
        have ilt : i < (hd :: tl).length := by
          have q := (List.getElem?_eq_some_iff.mp hi).1
          rw [u2.len, List.length_map] at q
          exact q
        obtain ⟨x', hx', tx⟩ := u2.at (List.getElem?_eq_getElem ilt)
        rw [hi] at hx'
        cases hx'
        have ro : rowOk Bw (hd :: tl)[i] := by
          rcases List.mem_cons.mp (List.getElem_mem ilt) with q | q
          · rw [q]
            exact e7
          · exact e8 _ q
        obtain ⟨rwa, rfl, q3⟩ := tx.word_inv
        have s24 := Same.trans s23 s4
        obtain ⟨ty3, i5, i6⟩ := isi_tup (K := K) (s24 _ _ q3)
        refine ⟨_, rfl, .ref rwa, _, ty3, _, true, rfl, .ty _, i5, i6, _, rfl, iteF ?_⟩
        have s14 := Same.trans s13 s4
        refine ⟨_, rfl, rwa, _, rfl, .inr (SqT.of (s24 _ _ q3)), _, rfl, wa, _, _, _, rfl, rfl, SqT.of (s14 _ _ w1), atI_nat (j := 0) w2, ba, _, rfl, .inr (SqT.of (s14 _ _ w3)), rfl, _, rfl, ?_⟩
        refine iteF' ?_ ⟨s4, _, rfl⟩
        rw [word_len, ro.1, w4, decide_eq_true rfl]
        rfl
      · rintro σ H4 ⟨s4, v4, rfl⟩
        have s14 := Same.trans s13 s4
        have s24 := Same.trans s23 s4
        refine ⟨_, rfl, _, rfl, _, rfl, W, ns, .ref wa, .ref ta, .ref ua, kk, S, Bw, st, es, r, hd, tl, z, rfl, ⟨ha.mono (Same.tk s14), ht.mono (Same.tk s14), tu.mono (Same.tk s24), hW, hS, h50, hns, l1000, e1, e2, e3, e6, e7, e8, e9, ?_⟩, fun cs p H5 pc sc s5 hp => ?_⟩
        · have : 10 * Bw * ns.length ≤ 10 * 3 * 12 := Nat.mul_le_mul (Nat.mul_le_mul_left 10 h3) hln
          omega
        have z6 : z.length ≤ 1000000 := by
          have : 10 * Bw * ns.length ≤ 10 * 3 * 12 := Nat.mul_le_mul (Nat.mul_le_mul_left 10 h3) hln
          omega
        refine ⟨_, rfl, z, rfl, z6, fun cs2 p2 pc2 sc2 p20 => ?_⟩
        obtain rfl : cs = cs2 := same_sorted cs cs2 (pc.trans pc2.symm) sc sc2
        have sh := shap_ones fun c hc => low c (pc.mem_iff.mp hc)
        have hp2 := same_new (o := .lst (cs.map fun c => V.str ⟨#[c]⟩)) p20 _ _ hp
        refine ⟨onesD cs, onesD cs, .lst (SqL.of hp2) (dp_ones cs), .lst (SqL.of upd_same) (dp_ones cs), sh, sh, ?_⟩
        rw [eq_ones]
        exact k _ (Same.trans (Same.trans s14 s5) (same_new p20))
theorem fn_law (F : C8.Fun K "law" "law" st_law_ f fd) (B : BN2 mg) (Bx : mg "max" = none) (Bn : mg "min" = none) (Cpen : Cal P w K mg base 1 "_law_pen" (spPen K) []) (Cd : Cal P w K mg base 2 "_law_draw" spDraw []) (Cw : Cal P w K mg base 7 "_law_writer" spWriter [])
    (Cws : Cal P w K mg base 1 "_law_words" spWords []) (Cwd : Cal P w K mg base 3 "_law_word" spWord []) (Cr : Cal P w K mg base 7 "_law_right" spRight44 []) : FnG P w K mg base 8 f fd ["script"] (spLaw K) := by
  refine fnG_by F sc_law (fun vs H Q E h => ?_) (fun cdv A outer s H vs Q E gu hr h => ?_)
  · obtain ⟨a, ns, rfl, _⟩ := h
    rfl
  · obtain ⟨a, ns, rfl, hS, k⟩ := h
    refine ⟨_, pss_cons (ps_set (i := 1) sc_law.nd rfl (Or.inr rfl) (pe_c Cpen hr (by decide) (by rfl) (pa_cons (pv 0) pa_nil)))
      (pss_cons (ps_for PassesOwn.never rfl (pi_range1 rfl B.range (pa_cons (pe_callB (call_max2 rfl) (by rfl) Bx (by decide +kernel) (pa_cons pe_int (pa_cons (pe_callB (call_min2 rfl) (by rfl) Bn (by decide +kernel) (pa_cons pe_int (pa_cons (pe_callB call_len_seq (by rfl) B.len PySem.boot_len (pa_cons (pv 0) pa_nil)) pa_nil))) pa_nil))) pa_nil)) (pg_name (i := 2) sc_law.nd rfl (Or.inl rfl))
        (pss_cons (ps_set (i := 3) sc_law.nd rfl (Or.inr rfl) (pe_op op_add pe_int (pe_c Cd hr (by decide) (by rfl) (pa_cons (pv 1) (pa_cons pe_int pa_nil)))))
        (pss_cons (ps_set (i := 4) sc_law.nd rfl (Or.inl rfl) (pe_op op_cat (pe_lc (own := [("lap", 7)]) (g := gName 7) (tt := tYes) (by rfl) sc_law.nd (pi_range1 rfl B.range (pa_cons pe_int pa_nil))
            (blkOk_by (own := [("lap", 7)]) (N := nLaw44) (sc := fnScope st_law_) (by decide +kernel)) (fun _ _ _ _ _ => pg_name (i := 7) sc_law.nd rfl (Or.inl rfl)) (fun _ _ _ _ _ => pts_nil)
            (fun _ _ _ _ _ => pe_c Cwd hr (by decide) (by rfl) (pa_cons (pv 1) (pa_cons (pv 3) (pa_cons pe_int pa_nil))))) (pe_c Cws hr (by decide) (by rfl) (pa_cons (pv 3) (pa_cons pe_int pa_nil)))))
        (pss_cons (ps_set (i := 5) sc_law.nd rfl (Or.inl rfl) (pe_c Cw hr (by decide) (by rfl) (pa_cons (pv 1) (pa_cons (pv 3) (pa_cons pe_int (pa_cons pe_int pa_nil))))))
        (pss_one (ps_for PassesOwn.never rfl (pi_list (pv 4)) (pg_name (i := 6) sc_law.nd rfl (Or.inl rfl))
          (pss_one (ps_if (pt_not (pt_val (pe_c Cr hr (by decide) (by rfl) (pa_cons (pv 5) (pa_cons (pv 6) pa_nil))))) (pss_one (ps_ret pe_bl)) pss_nil))))))))
      (pss_one (ps_ret pe_bl))), ?_⟩
    refine ⟨_, rfl, a, ns, rfl, hS, fun H1 p c s1 hP p0 => ?_⟩
    have hS1 : SqL K H1 a (ns.map V.int) := by
      rcases hS with (z | ⟨o, z⟩) | z
      · exact .inl (.inl (s1 _ _ z))
      · exact .inl (.inr ⟨o, s1 _ _ z⟩)
      · exact .inr z
    refine ⟨_, rfl, a, _, rfl, .inl hS1, _, _, rfl, _, _, rfl, _, rfl, ?_, ?_, for_range (fun i σ H' => (∃ v2 v3 v4 v5 v6 v7 : Option V, σ = [some (.ref a), some (.ref p), v2, v3, v4, v5, v6, v7]) ∧ Pen H' p c) ⟨⟨_, _, _, _, _, _, rfl⟩, hP⟩ ?_ ?_⟩
    · split <;> split <;> omega
    · split <;> split <;> omega
    · rintro i σ H2 hi ⟨⟨v2, v3, v4, v5, v6, v7, rfl⟩, hP2⟩
      refine ⟨_, rfl, p, c, 2, rfl, hP2, by decide, by decide, fun d H3 d0 d1 k3 => ⟨_, _, rfl, rfl, ?_⟩⟩
      obtain ⟨kk, hk⟩ : ∃ kk : Nat, 1 + d = (kk : Int) := ⟨(1 + d).toNat, by omega⟩
      have k12 : 1 ≤ kk ∧ kk ≤ 2 := by omega
      show gName 3 (V.int (1 + d)) _ _ _
      rw [hk]
      refine ⟨4, rfl, by decide, by decide, fun D hD => ?_⟩
      have nD : D ≠ p := k3.pen.ne hD
      have nDc : D ≠ c := k3.pen.neC hD
      refine lc_range (lo := 0) (n := 4) (fun j H' => Pen H' p c ∧ ∃ wds : List (List Nat), wds.length = j ∧ LAt H' D (wds.map wordD) ∧ ∀ u ∈ wds, (∀ y ∈ u, y < kk) ∧ u.length ≤ 12) ⟨k3.pen.new hD, [], rfl, ⟨[], upd_same, .nil⟩, fun u hu => (by cases hu)⟩ ?_ ?_
      · rintro j H4 hj ⟨hP4, wds, wl, hL, hw⟩
        refine ⟨rfl, _, rfl, _, rfl, p, c, kk, 12, rfl, hP4, by omega, by omega, by decide, fun ks wt H5 wd k5 w0 hwt => ?_⟩
        obtain ⟨n1, rfl, l1, b1⟩ := iN_nat wd
        obtain ⟨us, hu, au⟩ := hL.kp nD hP4 k5
        refine ⟨us, hu, ?_, ?_, wds ++ [n1], by rw [List.length_append, wl]; rfl, ?_, ?_⟩
        · rw [au.len, List.length_map, wl]
          exact Nat.lt_trans hj (by decide)
        · exact k5.pen.put nD nDc
        · rw [List.map_append]
          exact LAt.push hu au (tp_word hwt)
        · intro u hm
          rcases List.mem_append.mp hm with hm | hm
          · exact hw u hm
          · rw [List.mem_singleton.mp hm]
            exact ⟨fun y hy => by have := b1 y hy; omega, l1⟩
      · rintro H4 ⟨hP4, wds, wl, hL, hw⟩
        have few : (wordsW kk 2).length ≤ 100 := by
          have e : kk = 1 ∨ kk = 2 := by omega
          rcases e with rfl | rfl <;> decide +kernel
        refine ⟨_, rfl, kk, 2, rfl, by omega, by decide, Nat.le_trans few (by decide), fun la H5 s5 la0 Lw => ?_⟩
        obtain ⟨us, hu, au⟩ := hL.same s5
        obtain ⟨zs, hz, az⟩ := Lw
        have lu : us.length = 4 := by rw [au.len, List.length_map, wl]
        have lz : zs.length ≤ 100 := by rw [az.len, List.length_map]; exact few
        refine ⟨D, la, us, zs, rfl, rfl, hu, hz, Nat.le_trans (show us.length + zs.length ≤ 200 by omega) (by decide), fun lc hlc => ?_⟩
        have sc := same_new (o := .lst (us ++ zs)) hlc
        have hP6 := (hP4.same s5).same sc
        have Lc : LAt (upd H5 lc (.lst (us ++ zs))) lc ((wds ++ wordsW kk 2).map wordD) := by
          rw [List.map_append]
          exact ⟨_, upd_same, (au.mono (Same.tk sc)).app (az.mono (Same.tk sc))⟩
        have nlc : lc ≠ p := (hP4.same s5).ne hlc
        have hwa : ∀ u ∈ wds ++ wordsW kk 2, (∀ y ∈ u, y < kk) ∧ u.length ≤ 12 := fun u hm => by
          rcases List.mem_append.mp hm with hm | hm
          · exact hw u hm
          · obtain ⟨e1, e2⟩ := wordsW_mem kk 2 u hm
            exact ⟨e2, by omega⟩
        generalize wds ++ wordsW kk 2 = wb at *
        generalize upd H5 lc (.lst (us ++ zs)) = H6 at hP6 Lc ⊢
        refine ⟨_, rfl, _, rfl, p, c, kk, 3, 3, rfl, hP6, by omega, by decide, by decide, by decide, by decide, fun W S Bf t H7 S1 S3 B1 B3 hW k7 tW => ?_⟩
        obtain ⟨us3, hu3, au3⟩ := Lc.kp nlc hP6 k7
        refine ⟨_, rfl, lc, rfl, ⟨_, SqL.of hu3⟩, for_list (K := K) (a := lc) (xs := us3) (fun j σ H' => (∃ v6 : Option V, σ = [some (.ref a), some (.ref p), some (.int (0 + (i : Int))), some (.int kk), some (.ref lc), some (.ref t), v6, v7]) ∧ Same H7 H') ⟨⟨_, rfl⟩, Same.refl H7⟩ (fun j σ H' _ h => SqL.of (h.2 _ _ hu3)) ?_ ?_⟩
        · rintro j x σ H9 hj ⟨⟨v6', rfl⟩, s9⟩
          have jlt : j < wb.length := by
            have q := (List.getElem?_eq_some_iff.mp hj).1
            rw [au3.len, List.length_map] at q
            exact q
          obtain ⟨x', hx', tx⟩ := au3.at (List.getElem?_eq_getElem jlt)
          rw [hj] at hx'
          cases hx'
          obtain ⟨c1, c2⟩ := hwa _ (List.getElem_mem jlt)
          refine ⟨_, rfl, _, rfl, .ref t, x, W, _, kk, S, Bf, rfl, tW.mono (Same.tk s9), tx.mono (Same.tk s9), hW, S1, B3, c1, c2, fun H10 s10 => ⟨_, rfl, iteF ⟨⟨_, rfl⟩, Same.trans s9 s10⟩⟩⟩
        · rintro σ H9 ⟨⟨v6', rfl⟩, s9⟩
          exact ⟨⟨_, _, _, _, _, _, rfl⟩, k7.pen.same s9⟩
    · rintro σ H2 ⟨⟨v2, v3, v4, v5, v6, v7, rfl⟩, hP2⟩
      exact k _
end

/-! ### what the top has written, the head -/
theorem all_mk {l : PySem.W.OpenLaw} {w : World} {K : PySem.W.Frag} {h : Heap} {mg : Str → Option Value} {fa f0 f1 f2 f3 f4 f5 f6 f7 f8 f9 f10 f11 f12 f13 f14 f15 f16 f17 f18 f19 f20 f21 f22 f23 f24 f25 f26 f27 f28 : Addr} (X : K.In h) (G : h.Ns mainGlobals mg) (named : mg "law" = some (.ref fa))
    {od0 an0 od1 an1 od2 an2 od3 an3 od4 an4 od5 an5 od6 an6 od7 an7 od8 an8 od9 an9 od10 an10 od11 an11 od12 an12 od13 an13 od14 an14 od15 an15 od16 an16 od17 an17 od18 an18 od19 an19 od20 an20 od21 an21 od22 an22 od23 an23 od24 an24 od25 an25 od26 an26 od27 an27 od28 an28 : Option Addr} {sl0 sl1 sl2 sl3 sl4 sl5 sl6 sl7 sl8 sl9 sl10 sl11 sl12 sl13 sl14 sl15 sl16 sl17 sl18 sl19 sl20 sl21 sl22 sl23 sl24 sl25 sl26 sl27 sl28 : Array (Option Value)} {oc0 kV0 dc0 pm0 cd0 ct0 oc1 kV1 dc1 pm1 cd1 ct1 oc2 kV2 dc2 pm2 cd2 ct2 oc3 kV3 dc3 pm3 cd3 ct3 oc4 kV4 dc4 pm4 cd4 ct4 oc5 kV5 dc5 pm5 cd5 ct5 oc6 kV6 dc6 pm6 cd6 ct6 oc7 kV7 dc7 pm7 cd7 ct7 oc8 kV8 dc8 pm8 cd8 ct8 oc9 kV9 dc9 pm9 cd9 ct9 oc10 kV10 dc10 pm10 cd10 ct10 oc11 kV11 dc11 pm11 cd11 ct11 oc12 kV12 dc12 pm12 cd12 ct12 oc13 kV13 dc13 pm13 cd13 ct13 oc14 kV14 dc14 pm14 cd14 ct14 oc15 kV15 dc15 pm15 cd15 ct15 oc16 kV16 dc16 pm16 cd16 ct16 oc17 kV17 dc17 pm17 cd17 ct17 oc18 kV18 dc18 pm18 cd18 ct18 oc19 kV19 dc19 pm19 cd19 ct19 oc20 kV20 dc20 pm20 cd20 ct20 oc21 kV21 dc21 pm21 cd21 ct21 oc22 kV22 dc22 pm22 cd22 ct22 oc23 kV23 dc23 pm23 cd23 ct23 oc24 kV24 dc24 pm24 cd24 ct24 oc25 kV25 dc25 pm25 cd25 ct25 oc26 kV26 dc26 pm26 cd26 ct26 oc27 kV27 dc27 pm27 cd27 ct27 oc28 kV28 dc28 pm28 cd28 ct28 : Value}
    (a0 : PySem.W.nsIn K mainGlobals "text_for" = some (some (.ref f0))) (l0 : K.lookup f0 = some ⟨oc0, od0, .func (PySem.W.fnOf "text_for" "text_for" (C8.fnArgs st_text_for_) (fnBody st_text_for_) (fnScope st_text_for_) .none kV0 dc0 pm0 an0 cd0 ct0), sl0⟩) (c0 : PySem.W.codeIn K cd0 "text_for" = true) (k0 : PySem.W.keepIn K (.ref f0) = true)
    (a1 : PySem.W.nsIn K mainGlobals "behind_from" = some (some (.ref f1))) (l1 : K.lookup f1 = some ⟨oc1, od1, .func (PySem.W.fnOf "behind_from" "behind_from" (C8.fnArgs st_behind_from_) (fnBody st_behind_from_) (fnScope st_behind_from_) .none kV1 dc1 pm1 an1 cd1 ct1), sl1⟩) (c1 : PySem.W.codeIn K cd1 "behind_from" = true) (k1 : PySem.W.keepIn K (.ref f1) = true)
    (a2 : PySem.W.nsIn K mainGlobals "text_from" = some (some (.ref f2))) (l2 : K.lookup f2 = some ⟨oc2, od2, .func (PySem.W.fnOf "text_from" "text_from" (C8.fnArgs st_text_from_) (fnBody st_text_from_) (fnScope st_text_from_) .none kV2 dc2 pm2 an2 cd2 ct2), sl2⟩) (c2 : PySem.W.codeIn K cd2 "text_from" = true) (k2 : PySem.W.keepIn K (.ref f2) = true)
    (a3 : PySem.W.nsIn K mainGlobals "_filled" = some (some (.ref f3))) (l3 : K.lookup f3 = some ⟨oc3, od3, .func (PySem.W.fnOf "_filled" "_filled" (C8.fnArgs st_filled) (fnBody st_filled) (fnScope st_filled) .none kV3 dc3 pm3 an3 cd3 ct3), sl3⟩) (c3 : PySem.W.codeIn K cd3 "_filled" = true) (k3 : PySem.W.keepIn K (.ref f3) = true)
    (a4 : PySem.W.nsIn K mainGlobals "_made" = some (some (.ref f4))) (l4 : K.lookup f4 = some ⟨oc4, od4, .func (PySem.W.fnOf "_made" "_made" (C8.fnArgs st_made) (fnBody st_made) (fnScope st_made) .none kV4 dc4 pm4 an4 cd4 ct4), sl4⟩) (c4 : PySem.W.codeIn K cd4 "_made" = true) (k4 : PySem.W.keepIn K (.ref f4) = true)
    (a5 : PySem.W.nsIn K mainGlobals "fates" = some (some (.ref f5))) (l5 : K.lookup f5 = some ⟨oc5, od5, .func (PySem.W.fnOf "fates" "fates" (C8.fnArgs st_fates_) (fnBody st_fates_) (fnScope st_fates_) .none kV5 dc5 pm5 an5 cd5 ct5), sl5⟩) (c5 : PySem.W.codeIn K cd5 "fates" = true) (k5 : PySem.W.keepIn K (.ref f5) = true)
    (a6 : PySem.W.nsIn K mainGlobals "entries_along" = some (some (.ref f6))) (l6 : K.lookup f6 = some ⟨oc6, od6, .func (PySem.W.fnOf "entries_along" "entries_along" (C8.fnArgs st_entries_along_) (fnBody st_entries_along_) (fnScope st_entries_along_) .none kV6 dc6 pm6 an6 cd6 ct6), sl6⟩) (c6 : PySem.W.codeIn K cd6 "entries_along" = true) (k6 : PySem.W.keepIn K (.ref f6) = true)
    (a7 : PySem.W.nsIn K mainGlobals "fates_at_end" = some (some (.ref f7))) (l7 : K.lookup f7 = some ⟨oc7, od7, .func (PySem.W.fnOf "fates_at_end" "fates_at_end" (C8.fnArgs st_fates_at_end_) (fnBody st_fates_at_end_) (fnScope st_fates_at_end_) .none kV7 dc7 pm7 an7 cd7 ct7), sl7⟩) (c7 : PySem.W.codeIn K cd7 "fates_at_end" = true) (k7 : PySem.W.keepIn K (.ref f7) = true)
    (a8 : PySem.W.nsIn K mainGlobals "fates_before" = some (some (.ref f8))) (l8 : K.lookup f8 = some ⟨oc8, od8, .func (PySem.W.fnOf "fates_before" "fates_before" (C8.fnArgs st_fates_before_) (fnBody st_fates_before_) (fnScope st_fates_before_) .none kV8 dc8 pm8 an8 cd8 ct8), sl8⟩) (c8 : PySem.W.codeIn K cd8 "fates_before" = true) (k8 : PySem.W.keepIn K (.ref f8) = true)
    (a9 : PySem.W.nsIn K mainGlobals "_law_pen" = some (some (.ref f9))) (l9 : K.lookup f9 = some ⟨oc9, od9, .func (PySem.W.fnOf "_law_pen" "_law_pen" (C8.fnArgs st_law_pen) (fnBody st_law_pen) (fnScope st_law_pen) .none kV9 dc9 pm9 an9 cd9 ct9), sl9⟩) (c9 : PySem.W.codeIn K cd9 "_law_pen" = true) (k9 : PySem.W.keepIn K (.ref f9) = true)
    (a10 : PySem.W.nsIn K mainGlobals "_law_fresh" = some (some (.ref f10))) (l10 : K.lookup f10 = some ⟨oc10, od10, .func (PySem.W.fnOf "_law_fresh" "_law_fresh" (C8.fnArgs st_law_fresh) (fnBody st_law_fresh) (fnScope st_law_fresh) .none kV10 dc10 pm10 an10 cd10 ct10), sl10⟩) (c10 : PySem.W.codeIn K cd10 "_law_fresh" = true) (k10 : PySem.W.keepIn K (.ref f10) = true)
    (a11 : PySem.W.nsIn K mainGlobals "_law_draw" = some (some (.ref f11))) (l11 : K.lookup f11 = some ⟨oc11, od11, .func (PySem.W.fnOf "_law_draw" "_law_draw" (C8.fnArgs st_law_draw) (fnBody st_law_draw) (fnScope st_law_draw) .none kV11 dc11 pm11 an11 cd11 ct11), sl11⟩) (c11 : PySem.W.codeIn K cd11 "_law_draw" = true) (k11 : PySem.W.keepIn K (.ref f11) = true)
    (a12 : PySem.W.nsIn K mainGlobals "_law_one_of" = some (some (.ref f12))) (l12 : K.lookup f12 = some ⟨oc12, od12, .func (PySem.W.fnOf "_law_one_of" "_law_one_of" (C8.fnArgs st_law_one_of) (fnBody st_law_one_of) (fnScope st_law_one_of) .none kV12 dc12 pm12 an12 cd12 ct12), sl12⟩) (c12 : PySem.W.codeIn K cd12 "_law_one_of" = true) (k12 : PySem.W.keepIn K (.ref f12) = true)
    (a13 : PySem.W.nsIn K mainGlobals "_law_piece" = some (some (.ref f13))) (l13 : K.lookup f13 = some ⟨oc13, od13, .func (PySem.W.fnOf "_law_piece" "_law_piece" (C8.fnArgs st_law_piece) (fnBody st_law_piece) (fnScope st_law_piece) .none kV13 dc13 pm13 an13 cd13 ct13), sl13⟩) (c13 : PySem.W.codeIn K cd13 "_law_piece" = true) (k13 : PySem.W.keepIn K (.ref f13) = true)
    (a14 : PySem.W.nsIn K mainGlobals "_law_normal" = some (some (.ref f14))) (l14 : K.lookup f14 = some ⟨oc14, od14, .func (PySem.W.fnOf "_law_normal" "_law_normal" (C8.fnArgs st_law_normal) (fnBody st_law_normal) (fnScope st_law_normal) .none kV14 dc14 pm14 an14 cd14 ct14), sl14⟩) (c14 : PySem.W.codeIn K cd14 "_law_normal" = true) (k14 : PySem.W.keepIn K (.ref f14) = true)
    (a15 : PySem.W.nsIn K mainGlobals "_law_fill" = some (some (.ref f15))) (l15 : K.lookup f15 = some ⟨oc15, od15, .func (PySem.W.fnOf "_law_fill" "_law_fill" (C8.fnArgs st_law_fill) (fnBody st_law_fill) (fnScope st_law_fill) .none kV15 dc15 pm15 an15 cd15 ct15), sl15⟩) (c15 : PySem.W.codeIn K cd15 "_law_fill" = true) (k15 : PySem.W.keepIn K (.ref f15) = true)
    (a16 : PySem.W.nsIn K mainGlobals "_law_fills" = some (some (.ref f16))) (l16 : K.lookup f16 = some ⟨oc16, od16, .func (PySem.W.fnOf "_law_fills" "_law_fills" (C8.fnArgs st_law_fills) (fnBody st_law_fills) (fnScope st_law_fills) .none kV16 dc16 pm16 an16 cd16 ct16), sl16⟩) (c16 : PySem.W.codeIn K cd16 "_law_fills" = true) (k16 : PySem.W.keepIn K (.ref f16) = true)
    (a17 : PySem.W.nsIn K mainGlobals "_law_end" = some (some (.ref f17))) (l17 : K.lookup f17 = some ⟨oc17, od17, .func (PySem.W.fnOf "_law_end" "_law_end" (C8.fnArgs st_law_end) (fnBody st_law_end) (fnScope st_law_end) .none kV17 dc17 pm17 an17 cd17 ct17), sl17⟩) (c17 : PySem.W.codeIn K cd17 "_law_end" = true) (k17 : PySem.W.keepIn K (.ref f17) = true)
    (a18 : PySem.W.nsIn K mainGlobals "_law_writer" = some (some (.ref f18))) (l18 : K.lookup f18 = some ⟨oc18, od18, .func (PySem.W.fnOf "_law_writer" "_law_writer" (C8.fnArgs st_law_writer) (fnBody st_law_writer) (fnScope st_law_writer) .none kV18 dc18 pm18 an18 cd18 ct18), sl18⟩) (c18 : PySem.W.codeIn K cd18 "_law_writer" = true) (k18 : PySem.W.keepIn K (.ref f18) = true)
    (a19 : PySem.W.nsIn K mainGlobals "_law_word" = some (some (.ref f19))) (l19 : K.lookup f19 = some ⟨oc19, od19, .func (PySem.W.fnOf "_law_word" "_law_word" (C8.fnArgs st_law_word) (fnBody st_law_word) (fnScope st_law_word) .none kV19 dc19 pm19 an19 cd19 ct19), sl19⟩) (c19 : PySem.W.codeIn K cd19 "_law_word" = true) (k19 : PySem.W.keepIn K (.ref f19) = true)
    (a20 : PySem.W.nsIn K mainGlobals "_law_words" = some (some (.ref f20))) (l20 : K.lookup f20 = some ⟨oc20, od20, .func (PySem.W.fnOf "_law_words" "_law_words" (C8.fnArgs st_law_words) (fnBody st_law_words) (fnScope st_law_words) .none kV20 dc20 pm20 an20 cd20 ct20), sl20⟩) (c20 : PySem.W.codeIn K cd20 "_law_words" = true) (k20 : PySem.W.keepIn K (.ref f20) = true)
    (a21 : PySem.W.nsIn K mainGlobals "_law_made" = some (some (.ref f21))) (l21 : K.lookup f21 = some ⟨oc21, od21, .func (PySem.W.fnOf "_law_made" "_law_made" (C8.fnArgs st_law_made) (fnBody st_law_made) (fnScope st_law_made) .none kV21 dc21 pm21 an21 cd21 ct21), sl21⟩) (c21 : PySem.W.codeIn K cd21 "_law_made" = true) (k21 : PySem.W.keepIn K (.ref f21) = true)
    (a22 : PySem.W.nsIn K mainGlobals "_law_onward" = some (some (.ref f22))) (l22 : K.lookup f22 = some ⟨oc22, od22, .func (PySem.W.fnOf "_law_onward" "_law_onward" (C8.fnArgs st_law_onward) (fnBody st_law_onward) (fnScope st_law_onward) .none kV22 dc22 pm22 an22 cd22 ct22), sl22⟩) (c22 : PySem.W.codeIn K cd22 "_law_onward" = true) (k22 : PySem.W.keepIn K (.ref f22) = true)
    (a23 : PySem.W.nsIn K mainGlobals "_law_behind" = some (some (.ref f23))) (l23 : K.lookup f23 = some ⟨oc23, od23, .func (PySem.W.fnOf "_law_behind" "_law_behind" (C8.fnArgs st_law_behind) (fnBody st_law_behind) (fnScope st_law_behind) .none kV23 dc23 pm23 an23 cd23 ct23), sl23⟩) (c23 : PySem.W.codeIn K cd23 "_law_behind" = true) (k23 : PySem.W.keepIn K (.ref f23) = true)
    (a24 : PySem.W.nsIn K mainGlobals "_law_told" = some (some (.ref f24))) (l24 : K.lookup f24 = some ⟨oc24, od24, .func (PySem.W.fnOf "_law_told" "_law_told" (C8.fnArgs st_law_told) (fnBody st_law_told) (fnScope st_law_told) .none kV24 dc24 pm24 an24 cd24 ct24), sl24⟩) (c24 : PySem.W.codeIn K cd24 "_law_told" = true) (k24 : PySem.W.keepIn K (.ref f24) = true)
    (a25 : PySem.W.nsIn K mainGlobals "_law_pieces" = some (some (.ref f25))) (l25 : K.lookup f25 = some ⟨oc25, od25, .func (PySem.W.fnOf "_law_pieces" "_law_pieces" (C8.fnArgs st_law_pieces) (fnBody st_law_pieces) (fnScope st_law_pieces) .none kV25 dc25 pm25 an25 cd25 ct25), sl25⟩) (c25 : PySem.W.codeIn K cd25 "_law_pieces" = true) (k25 : PySem.W.keepIn K (.ref f25) = true)
    (a26 : PySem.W.nsIn K mainGlobals "_law_letters" = some (some (.ref f26))) (l26 : K.lookup f26 = some ⟨oc26, od26, .func (PySem.W.fnOf "_law_letters" "_law_letters" (C8.fnArgs st_law_letters) (fnBody st_law_letters) (fnScope st_law_letters) .none kV26 dc26 pm26 an26 cd26 ct26), sl26⟩) (c26 : PySem.W.codeIn K cd26 "_law_letters" = true) (k26 : PySem.W.keepIn K (.ref f26) = true)
    (a27 : PySem.W.nsIn K mainGlobals "_law_right" = some (some (.ref f27))) (l27 : K.lookup f27 = some ⟨oc27, od27, .func (PySem.W.fnOf "_law_right" "_law_right" (C8.fnArgs st_law_right) (fnBody st_law_right) (fnScope st_law_right) .none kV27 dc27 pm27 an27 cd27 ct27), sl27⟩) (c27 : PySem.W.codeIn K cd27 "_law_right" = true) (k27 : PySem.W.keepIn K (.ref f27) = true)
    (a28 : PySem.W.nsIn K mainGlobals "law" = some (some (.ref f28))) (l28 : K.lookup f28 = some ⟨oc28, od28, .func (PySem.W.fnOf "law" "law" (C8.fnArgs st_law_) (fnBody st_law_) (fnScope st_law_) .none kV28 dc28 pm28 an28 cd28 ct28), sl28⟩) (c28 : PySem.W.codeIn K cd28 "law" = true) (k28 : PySem.W.keepIn K (.ref f28) = true)
    (z_list : PySem.W.nsIn K mainGlobals "list" = some none)
    (z_int : PySem.W.nsIn K mainGlobals "int" = some none)
    (z_len : PySem.W.nsIn K mainGlobals "len" = some none)
    (z_range : PySem.W.nsIn K mainGlobals "range" = some none)
    (z_tuple : PySem.W.nsIn K mainGlobals "tuple" = some none)
    (z_isinstance : PySem.W.nsIn K mainGlobals "isinstance" = some none)
    (z_str : PySem.W.nsIn K mainGlobals "str" = some none)
    (z_max : PySem.W.nsIn K mainGlobals "max" = some none)
    (z_min : PySem.W.nsIn K mainGlobals "min" = some none)
    (z_zip : PySem.W.nsIn K mainGlobals "zip" = some none)
    (z_enumerate : PySem.W.nsIn K mainGlobals "enumerate" = some none)
    (z_sorted : PySem.W.nsIn K mainGlobals "sorted" = some none) :
    ∃ fd : FuncData, (∀ (s : Shared) (u : Value), BindsTo s fd ⟨[u], []⟩ [("script", u)]) ∧ ∀ base : Heap, K.In base → base.Ns mainGlobals mg → FnG l.prog w K mg base 8 fa fd ["script"] (spLaw K) := by
  have e := named.symm.trans (PySem.W.mg_of X G a28)
  cases e
  have F0 : C8.Fun K "text_for" "text_for" st_text_for_ f0 _ := ⟨⟨_, _, _, _, _, _, _, _, _, _, rfl, l0, c0⟩⟩
  have Dtext_for : C8.Def K mg "text_for" st_text_for_ f0 _ := ⟨F0, PySem.W.mg_of X G a0, k0⟩
  have btext_for := F0.binds rfl (ps := ["writer", "word"]) fun _ _ _ _ _ _ us hl => match us, hl with | [_, _], _ => rfl
  have F1 : C8.Fun K "behind_from" "behind_from" st_behind_from_ f1 _ := ⟨⟨_, _, _, _, _, _, _, _, _, _, rfl, l1, c1⟩⟩
  have Dbehind_from : C8.Def K mg "behind_from" st_behind_from_ f1 _ := ⟨F1, PySem.W.mg_of X G a1, k1⟩
  have bbehind_from := F1.binds rfl (ps := ["writer", "situation", "word"]) fun _ _ _ _ _ _ us hl => match us, hl with | [_, _, _], _ => rfl
  have F2 : C8.Fun K "text_from" "text_from" st_text_from_ f2 _ := ⟨⟨_, _, _, _, _, _, _, _, _, _, rfl, l2, c2⟩⟩
  have Dtext_from : C8.Def K mg "text_from" st_text_from_ f2 _ := ⟨F2, PySem.W.mg_of X G a2, k2⟩
  have btext_from := F2.binds rfl (ps := ["writer", "situation", "word"]) fun _ _ _ _ _ _ us hl => match us, hl with | [_, _, _], _ => rfl
  have F3 : C8.Fun K "_filled" "_filled" st_filled f3 _ := ⟨⟨_, _, _, _, _, _, _, _, _, _, rfl, l3, c3⟩⟩
  have D_filled : C8.Def K mg "_filled" st_filled f3 _ := ⟨F3, PySem.W.mg_of X G a3, k3⟩
  have b_filled := F3.binds rfl (ps := ["fills", "texts"]) fun _ _ _ _ _ _ us hl => match us, hl with | [_, _], _ => rfl
  have F4 : C8.Fun K "_made" "_made" st_made f4 _ := ⟨⟨_, _, _, _, _, _, _, _, _, _, rfl, l4, c4⟩⟩
  have D_made : C8.Def K mg "_made" st_made f4 _ := ⟨F4, PySem.W.mg_of X G a4, k4⟩
  have b_made := F4.binds rfl (ps := ["recipe", "texts"]) fun _ _ _ _ _ _ us hl => match us, hl with | [_, _], _ => rfl
  have F5 : C8.Fun K "fates" "fates" st_fates_ f5 _ := ⟨⟨_, _, _, _, _, _, _, _, _, _, rfl, l5, c5⟩⟩
  have Dfates : C8.Def K mg "fates" st_fates_ f5 _ := ⟨F5, PySem.W.mg_of X G a5, k5⟩
  have bfates := F5.binds rfl (ps := ["writer", "word"]) fun _ _ _ _ _ _ us hl => match us, hl with | [_, _], _ => rfl
  have F6 : C8.Fun K "entries_along" "entries_along" st_entries_along_ f6 _ := ⟨⟨_, _, _, _, _, _, _, _, _, _, rfl, l6, c6⟩⟩
  have Dentries_along : C8.Def K mg "entries_along" st_entries_along_ f6 _ := ⟨F6, PySem.W.mg_of X G a6, k6⟩
  have bentries_along := F6.binds rfl (ps := ["writer", "word"]) fun _ _ _ _ _ _ us hl => match us, hl with | [_, _], _ => rfl
  have F7 : C8.Fun K "fates_at_end" "fates_at_end" st_fates_at_end_ f7 _ := ⟨⟨_, _, _, _, _, _, _, _, _, _, rfl, l7, c7⟩⟩
  have Dfates_at_end : C8.Def K mg "fates_at_end" st_fates_at_end_ f7 _ := ⟨F7, PySem.W.mg_of X G a7, k7⟩
  have bfates_at_end := F7.binds rfl (ps := ["writer", "state"]) fun _ _ _ _ _ _ us hl => match us, hl with | [_, _], _ => rfl
  have F8 : C8.Fun K "fates_before" "fates_before" st_fates_before_ f8 _ := ⟨⟨_, _, _, _, _, _, _, _, _, _, rfl, l8, c8⟩⟩
  have Dfates_before : C8.Def K mg "fates_before" st_fates_before_ f8 _ := ⟨F8, PySem.W.mg_of X G a8, k8⟩
  have bfates_before := F8.binds rfl (ps := ["fills", "later"]) fun _ _ _ _ _ _ us hl => match us, hl with | [_, _], _ => rfl
  have F9 : C8.Fun K "_law_pen" "_law_pen" st_law_pen f9 _ := ⟨⟨_, _, _, _, _, _, _, _, _, _, rfl, l9, c9⟩⟩
  have D_law_pen : C8.Def K mg "_law_pen" st_law_pen f9 _ := ⟨F9, PySem.W.mg_of X G a9, k9⟩
  have b_law_pen := F9.binds rfl (ps := ["script"]) fun _ _ _ _ _ _ us hl => match us, hl with | [_], _ => rfl
  have F10 : C8.Fun K "_law_fresh" "_law_fresh" st_law_fresh f10 _ := ⟨⟨_, _, _, _, _, _, _, _, _, _, rfl, l10, c10⟩⟩
  have D_law_fresh : C8.Def K mg "_law_fresh" st_law_fresh f10 _ := ⟨F10, PySem.W.mg_of X G a10, k10⟩
  have b_law_fresh := F10.binds rfl (ps := ["pen"]) fun _ _ _ _ _ _ us hl => match us, hl with | [_], _ => rfl
  have F11 : C8.Fun K "_law_draw" "_law_draw" st_law_draw f11 _ := ⟨⟨_, _, _, _, _, _, _, _, _, _, rfl, l11, c11⟩⟩
  have D_law_draw : C8.Def K mg "_law_draw" st_law_draw f11 _ := ⟨F11, PySem.W.mg_of X G a11, k11⟩
  have b_law_draw := F11.binds rfl (ps := ["pen", "bound"]) fun _ _ _ _ _ _ us hl => match us, hl with | [_, _], _ => rfl
  have F12 : C8.Fun K "_law_one_of" "_law_one_of" st_law_one_of f12 _ := ⟨⟨_, _, _, _, _, _, _, _, _, _, rfl, l12, c12⟩⟩
  have D_law_one_of : C8.Def K mg "_law_one_of" st_law_one_of f12 _ := ⟨F12, PySem.W.mg_of X G a12, k12⟩
  have b_law_one_of := F12.binds rfl (ps := ["pen", "rows"]) fun _ _ _ _ _ _ us hl => match us, hl with | [_, _], _ => rfl
  have F13 : C8.Fun K "_law_piece" "_law_piece" st_law_piece f13 _ := ⟨⟨_, _, _, _, _, _, _, _, _, _, rfl, l13, c13⟩⟩
  have D_law_piece : C8.Def K mg "_law_piece" st_law_piece f13 _ := ⟨F13, PySem.W.mg_of X G a13, k13⟩
  have b_law_piece := F13.binds rfl (ps := ["pen", "most"]) fun _ _ _ _ _ _ us hl => match us, hl with | [_, _], _ => rfl
  have F14 : C8.Fun K "_law_normal" "_law_normal" st_law_normal f14 _ := ⟨⟨_, _, _, _, _, _, _, _, _, _, rfl, l14, c14⟩⟩
  have D_law_normal : C8.Def K mg "_law_normal" st_law_normal f14 _ := ⟨F14, PySem.W.mg_of X G a14, k14⟩
  have b_law_normal := F14.binds rfl (ps := ["parts"]) fun _ _ _ _ _ _ us hl => match us, hl with | [_], _ => rfl
  have F15 : C8.Fun K "_law_fill" "_law_fill" st_law_fill f15 _ := ⟨⟨_, _, _, _, _, _, _, _, _, _, rfl, l15, c15⟩⟩
  have D_law_fill : C8.Def K mg "_law_fill" st_law_fill f15 _ := ⟨F15, PySem.W.mg_of X G a15, k15⟩
  have b_law_fill := F15.binds rfl (ps := ["pen", "left", "own"]) fun _ _ _ _ _ _ us hl => match us, hl with | [_, _, _], _ => rfl
  have F16 : C8.Fun K "_law_fills" "_law_fills" st_law_fills f16 _ := ⟨⟨_, _, _, _, _, _, _, _, _, _, rfl, l16, c16⟩⟩
  have D_law_fills : C8.Def K mg "_law_fills" st_law_fills f16 _ := ⟨F16, PySem.W.mg_of X G a16, k16⟩
  have b_law_fills := F16.binds rfl (ps := ["pen", "buffers"]) fun _ _ _ _ _ _ us hl => match us, hl with | [_, _], _ => rfl
  have F17 : C8.Fun K "_law_end" "_law_end" st_law_end f17 _ := ⟨⟨_, _, _, _, _, _, _, _, _, _, rfl, l17, c17⟩⟩
  have D_law_end : C8.Def K mg "_law_end" st_law_end f17 _ := ⟨F17, PySem.W.mg_of X G a17, k17⟩
  have b_law_end := F17.binds rfl (ps := ["pen", "buffers"]) fun _ _ _ _ _ _ us hl => match us, hl with | [_, _], _ => rfl
  have F18 : C8.Fun K "_law_writer" "_law_writer" st_law_writer f18 _ := ⟨⟨_, _, _, _, _, _, _, _, _, _, rfl, l18, c18⟩⟩
  have D_law_writer : C8.Def K mg "_law_writer" st_law_writer f18 _ := ⟨F18, PySem.W.mg_of X G a18, k18⟩
  have b_law_writer := F18.binds rfl (ps := ["pen", "count", "states", "buffers"]) fun _ _ _ _ _ _ us hl => match us, hl with | [_, _, _, _], _ => rfl
  have F19 : C8.Fun K "_law_word" "_law_word" st_law_word f19 _ := ⟨⟨_, _, _, _, _, _, _, _, _, _, rfl, l19, c19⟩⟩
  have D_law_word : C8.Def K mg "_law_word" st_law_word f19 _ := ⟨F19, PySem.W.mg_of X G a19, k19⟩
  have b_law_word := F19.binds rfl (ps := ["pen", "count", "most"]) fun _ _ _ _ _ _ us hl => match us, hl with | [_, _, _], _ => rfl
  have F20 : C8.Fun K "_law_words" "_law_words" st_law_words f20 _ := ⟨⟨_, _, _, _, _, _, _, _, _, _, rfl, l20, c20⟩⟩
  have D_law_words : C8.Def K mg "_law_words" st_law_words f20 _ := ⟨F20, PySem.W.mg_of X G a20, k20⟩
  have b_law_words := F20.binds rfl (ps := ["count", "most"]) fun _ _ _ _ _ _ us hl => match us, hl with | [_, _], _ => rfl
  have F21 : C8.Fun K "_law_made" "_law_made" st_law_made f21 _ := ⟨⟨_, _, _, _, _, _, _, _, _, _, rfl, l21, c21⟩⟩
  have D_law_made : C8.Def K mg "_law_made" st_law_made f21 _ := ⟨F21, PySem.W.mg_of X G a21, k21⟩
  have b_law_made := F21.binds rfl (ps := ["recipe", "texts"]) fun _ _ _ _ _ _ us hl => match us, hl with | [_, _], _ => rfl
  have F22 : C8.Fun K "_law_onward" "_law_onward" st_law_onward f22 _ := ⟨⟨_, _, _, _, _, _, _, _, _, _, rfl, l22, c22⟩⟩
  have D_law_onward : C8.Def K mg "_law_onward" st_law_onward f22 _ := ⟨F22, PySem.W.mg_of X G a22, k22⟩
  have b_law_onward := F22.binds rfl (ps := ["writer", "situation", "kind"]) fun _ _ _ _ _ _ us hl => match us, hl with | [_, _, _], _ => rfl
  have F23 : C8.Fun K "_law_behind" "_law_behind" st_law_behind f23 _ := ⟨⟨_, _, _, _, _, _, _, _, _, _, rfl, l23, c23⟩⟩
  have D_law_behind : C8.Def K mg "_law_behind" st_law_behind f23 _ := ⟨F23, PySem.W.mg_of X G a23, k23⟩
  have b_law_behind := F23.binds rfl (ps := ["writer", "word"]) fun _ _ _ _ _ _ us hl => match us, hl with | [_, _], _ => rfl
  have F24 : C8.Fun K "_law_told" "_law_told" st_law_told f24 _ := ⟨⟨_, _, _, _, _, _, _, _, _, _, rfl, l24, c24⟩⟩
  have D_law_told : C8.Def K mg "_law_told" st_law_told f24 _ := ⟨F24, PySem.W.mg_of X G a24, k24⟩
  have b_law_told := F24.binds rfl (ps := ["writer", "word"]) fun _ _ _ _ _ _ us hl => match us, hl with | [_, _], _ => rfl
  have F25 : C8.Fun K "_law_pieces" "_law_pieces" st_law_pieces f25 _ := ⟨⟨_, _, _, _, _, _, _, _, _, _, rfl, l25, c25⟩⟩
  have D_law_pieces : C8.Def K mg "_law_pieces" st_law_pieces f25 _ := ⟨F25, PySem.W.mg_of X G a25, k25⟩
  have b_law_pieces := F25.binds rfl (ps := ["recipe"]) fun _ _ _ _ _ _ us hl => match us, hl with | [_], _ => rfl
  have F26 : C8.Fun K "_law_letters" "_law_letters" st_law_letters f26 _ := ⟨⟨_, _, _, _, _, _, _, _, _, _, rfl, l26, c26⟩⟩
  have D_law_letters : C8.Def K mg "_law_letters" st_law_letters f26 _ := ⟨F26, PySem.W.mg_of X G a26, k26⟩
  have b_law_letters := F26.binds rfl (ps := ["writer", "word", "told"]) fun _ _ _ _ _ _ us hl => match us, hl with | [_, _, _], _ => rfl
  have F27 : C8.Fun K "_law_right" "_law_right" st_law_right f27 _ := ⟨⟨_, _, _, _, _, _, _, _, _, _, rfl, l27, c27⟩⟩
  have D_law_right : C8.Def K mg "_law_right" st_law_right f27 _ := ⟨F27, PySem.W.mg_of X G a27, k27⟩
  have b_law_right := F27.binds rfl (ps := ["writer", "word"]) fun _ _ _ _ _ _ us hl => match us, hl with | [_, _], _ => rfl
  have F28 : C8.Fun K "law" "law" st_law_ _ _ := ⟨⟨_, _, _, _, _, _, _, _, _, _, rfl, l28, c28⟩⟩
  have m_list := PySem.W.mg_none_of X G z_list
  have m_int := PySem.W.mg_none_of X G z_int
  have m_len := PySem.W.mg_none_of X G z_len
  have m_range := PySem.W.mg_none_of X G z_range
  have m_tuple := PySem.W.mg_none_of X G z_tuple
  have m_isinstance := PySem.W.mg_none_of X G z_isinstance
  have m_str := PySem.W.mg_none_of X G z_str
  have m_max := PySem.W.mg_none_of X G z_max
  have m_min := PySem.W.mg_none_of X G z_min
  have m_zip := PySem.W.mg_none_of X G z_zip
  have m_enumerate := PySem.W.mg_none_of X G z_enumerate
  have m_sorted := PySem.W.mg_none_of X G z_sorted
  have B : BN2 mg := { list := m_list, int := m_int, len := m_len, range := m_range, tuple := m_tuple, isi := m_isinstance, str := m_str }
  refine ⟨PySem.W.fnOf "law" "law" (C8.fnArgs st_law_) (fnBody st_law_) (fnScope st_law_) .none kV28 dc28 pm28 an28 cd28 ct28, fun s u => .of_eq rfl, fun base _ _ => ?_⟩
  have cpen : Cal l.prog w K mg base 1 "_law_pen" (spPen K) [] := cal_pen D_law_pen b_law_pen B.toBN
  have cfresh : Cal l.prog w K mg base 1 "_law_fresh" spFresh [] := cal_fresh D_law_fresh b_law_fresh B.toBN
  have cdraw : Cal l.prog w K mg base 2 "_law_draw" spDraw [] := cal_draw D_law_draw b_law_draw B.toBN cfresh
  have cone : Cal l.prog w K mg base 3 "_law_one_of" (spOne K) [] := cal_one D_law_one_of b_law_one_of B.toBN cdraw
  have cpiece : Cal l.prog w K mg base 4 "_law_piece" spPiece [] := cal_piece D_law_piece b_law_piece B.toBN cdraw cone
  have cnormal : Cal l.prog w K mg base 1 "_law_normal" (spNormal K) [] := cal_normal D_law_normal b_law_normal B
  have cfill : Cal l.prog w K mg base 5 "_law_fill" spFill [] := cal_fill D_law_fill b_law_fill B cdraw cone cpiece cnormal
  have cfills : Cal l.prog w K mg base 6 "_law_fills" spFills [] := cal_fills D_law_fills b_law_fills B cdraw cfill
  have cend : Cal l.prog w K mg base 6 "_law_end" spEnd [] := cal_end D_law_end b_law_end B cdraw cfill
  have cwriter : Cal l.prog w K mg base 7 "_law_writer" spWriter [] := cal_writer D_law_writer b_law_writer B cdraw cpiece cfills cend
  have cword : Cal l.prog w K mg base 3 "_law_word" spWord [] := cal_word D_law_word b_law_word B.toBN B.tuple cdraw
  have cwords : Cal l.prog w K mg base 1 "_law_words" spWords [] := cal_words D_law_words b_law_words B
  have cmade : Cal l.prog w K mg base 1 "_made" spMade [] := cal_made D_made b_made B
  have cfilled : Cal l.prog w K mg base 2 "_filled" spFilled [] := cal_filled D_filled b_filled B cmade
  have cbf : Cal l.prog w K mg base 3 "behind_from" spBehindF [] := cal_behind_from_ Dbehind_from bbehind_from cfilled
  have ctf : Cal l.prog w K mg base 4 "text_from" spTellF [] := cal_text_from_ Dtext_from btext_from cbf cmade
  have ctext : Cal l.prog w K mg base 5 "text_for" spTell [] := cal_text_for_ Dtext_for btext_for ctf
  have cents : Cal l.prog w K mg base 1 "entries_along" spEntries [] := cal_entries Dentries_along bentries_along
  have cate : Cal l.prog w K mg base 1 "fates_at_end" spAtEnd [] := cal_at_end Dfates_at_end bfates_at_end B
  have cbef : Cal l.prog w K mg base 1 "fates_before" spBefore [] := cal_before Dfates_before bfates_before B m_zip
  have cfates : Cal l.prog w K mg base 6 "fates" spFates [] := cal_fates Dfates bfates B ctext cents cate cbef
  have clmade : Cal l.prog w K mg base 1 "_law_made" spMade [] := cal_law_made D_law_made b_law_made B
  have conward : Cal l.prog w K mg base 2 "_law_onward" spOnward [] := cal_onward D_law_onward b_law_onward B clmade
  have clbehind : Cal l.prog w K mg base 3 "_law_behind" spBehind [] := cal_lbehind D_law_behind b_law_behind conward
  have ctold : Cal l.prog w K mg base 4 "_law_told" spTell [] := cal_told D_law_told b_law_told clbehind clmade
  have cpieces : Cal l.prog w K mg base 1 "_law_pieces" spPieces [] := cal_pieces D_law_pieces b_law_pieces B
  have clet : Cal l.prog w K mg base 2 "_law_letters" spLLet [] := cal_lletters D_law_letters b_law_letters B m_zip m_enumerate m_sorted cpieces
  have cright : Cal l.prog w K mg base 7 "_law_right" spRight44 [] := cal_right44 D_law_right b_law_right B m_sorted cfates ctext ctold clet
  exact fn_law F28 B m_max m_min cpen cdraw cwriter cwords cword cright
end Toy

open PySem PySem.W PyProof.Rows in
set_option maxRecDepth 100000 in
set_option maxHeartbeats 0 in
theorem PySem.Challenge.cw_fewtests_k44_whole_fates_tell_the_letter_holds : PySem.Challenge.rw_fewtests_k44_whole_fates_tell_the_letter.Holds := by
  w_on; o_law; k_head; (case hw => w_witness2)
  k_fill
  refine Toy.walkG (l := PySem.Challenge.rw_fewtests_k44_whole_fates_tell_the_letter) (k := 8) (sp := Toy.spLaw) (x := "script") rfl rfl ⟨rfl, by decide, by decide⟩ (fun w h Y => PySem.W.kIn_of Y) ?F (fun K H a ns few sq => ⟨a, ns, rfl, sq, fun _ => rfl⟩)
  case F =>
    intro w mg fa h KX G hmg
    refine' Toy.all_mk KX G hmg ?a0 ?l0 ?c0 ?k0 ?a1 ?l1 ?c1 ?k1 ?a2 ?l2 ?c2 ?k2 ?a3 ?l3 ?c3 ?k3 ?a4 ?l4 ?c4 ?k4 ?a5 ?l5 ?c5 ?k5 ?a6 ?l6 ?c6 ?k6 ?a7 ?l7 ?c7 ?k7 ?a8 ?l8 ?c8 ?k8 ?a9 ?l9 ?c9 ?k9 ?a10 ?l10 ?c10 ?k10 ?a11 ?l11 ?c11 ?k11 ?a12 ?l12 ?c12 ?k12 ?a13 ?l13 ?c13 ?k13 ?a14 ?l14 ?c14 ?k14 ?a15 ?l15 ?c15 ?k15 ?a16 ?l16 ?c16 ?k16 ?a17 ?l17 ?c17 ?k17 ?a18 ?l18 ?c18 ?k18 ?a19 ?l19 ?c19 ?k19 ?a20 ?l20 ?c20 ?k20 ?a21 ?l21 ?c21 ?k21 ?a22 ?l22 ?c22 ?k22 ?a23 ?l23 ?c23 ?k23 ?a24 ?l24 ?c24 ?k24 ?a25 ?l25 ?c25 ?k25 ?a26 ?l26 ?c26 ?k26 ?a27 ?l27 ?c27 ?k27 ?a28 ?l28 ?c28 ?k28 ?z_list ?z_int ?z_len ?z_range ?z_tuple ?z_isinstance ?z_str ?z_max ?z_min ?z_zip ?z_enumerate ?z_sorted
    (case a0 => k_is)
    (case l0 => k_is)
    (case c0 => k_is)
    (case k0 => k_is)
    (case a1 => k_is)
    (case l1 => k_is)
    (case c1 => k_is)
    (case k1 => k_is)
    (case a2 => k_is)
    (case l2 => k_is)
    (case c2 => k_is)
    (case k2 => k_is)
    (case a3 => k_is)
    (case l3 => k_is)
    (case c3 => k_is)
    (case k3 => k_is)
    (case a4 => k_is)
    (case l4 => k_is)
    (case c4 => k_is)
    (case k4 => k_is)
    (case a5 => k_is)
    (case l5 => k_is)
    (case c5 => k_is)
    (case k5 => k_is)
    (case a6 => k_is)
    (case l6 => k_is)
    (case c6 => k_is)
    (case k6 => k_is)
    (case a7 => k_is)
    (case l7 => k_is)
    (case c7 => k_is)
    (case k7 => k_is)
    (case a8 => k_is)
    (case l8 => k_is)
    (case c8 => k_is)
    (case k8 => k_is)
    (case a9 => k_is)
    (case l9 => k_is)
    (case c9 => k_is)
    (case k9 => k_is)
    (case a10 => k_is)
    (case l10 => k_is)
    (case c10 => k_is)
    (case k10 => k_is)
    (case a11 => k_is)
    (case l11 => k_is)
    (case c11 => k_is)
    (case k11 => k_is)
    (case a12 => k_is)
    (case l12 => k_is)
    (case c12 => k_is)
    (case k12 => k_is)
    (case a13 => k_is)
    (case l13 => k_is)
    (case c13 => k_is)
    (case k13 => k_is)
    (case a14 => k_is)
    (case l14 => k_is)
    (case c14 => k_is)
    (case k14 => k_is)
    (case a15 => k_is)
    (case l15 => k_is)
    (case c15 => k_is)
    (case k15 => k_is)
    (case a16 => k_is)
    (case l16 => k_is)
    (case c16 => k_is)
    (case k16 => k_is)
    (case a17 => k_is)
    (case l17 => k_is)
    (case c17 => k_is)
    (case k17 => k_is)
    (case a18 => k_is)
    (case l18 => k_is)
    (case c18 => k_is)
    (case k18 => k_is)
    (case a19 => k_is)
    (case l19 => k_is)
    (case c19 => k_is)
    (case k19 => k_is)
    (case a20 => k_is)
    (case l20 => k_is)
    (case c20 => k_is)
    (case k20 => k_is)
    (case a21 => k_is)
    (case l21 => k_is)
    (case c21 => k_is)
    (case k21 => k_is)
    (case a22 => k_is)
    (case l22 => k_is)
    (case c22 => k_is)
    (case k22 => k_is)
    (case a23 => k_is)
    (case l23 => k_is)
    (case c23 => k_is)
    (case k23 => k_is)
    (case a24 => k_is)
    (case l24 => k_is)
    (case c24 => k_is)
    (case k24 => k_is)
    (case a25 => k_is)
    (case l25 => k_is)
    (case c25 => k_is)
    (case k25 => k_is)
    (case a26 => k_is)
    (case l26 => k_is)
    (case c26 => k_is)
    (case k26 => k_is)
    (case a27 => k_is)
    (case l27 => k_is)
    (case c27 => k_is)
    (case k27 => k_is)
    (case a28 => k_is)
    (case l28 => k_is)
    (case c28 => k_is)
    (case k28 => k_is)
    (case z_list => k_is)
    (case z_int => k_is)
    (case z_len => k_is)
    (case z_range => k_is)
    (case z_tuple => k_is)
    (case z_isinstance => k_is)
    (case z_str => k_is)
    (case z_max => k_is)
    (case z_min => k_is)
    (case z_zip => k_is)
    (case z_enumerate => k_is)
    (case z_sorted => k_is)
