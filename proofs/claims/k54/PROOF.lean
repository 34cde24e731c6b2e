import PyProof.Rows.All
import Wide.All
import OpenK.AllK
import Wide.FinOn
import PyProof.Draws
import PyProof.Rows.SortShellAny
import HandS.Codes
import HandS.Conv
import HandS.DictComp
import HandS.ExcField
import HandS.ExcInit
import HandS.ExcOwn
import HandS.ExcValue
import HandS.FStr
import HandS.Flow
import HandS.ForMost
import HandS.GenList
import HandS.GenYield
import HandS.IsInst
import HandS.Replace
import HandS.Star
import HandS.Style
import HandS.TupAny
import HandS.TupMul
import HandS.Wide
import HandS.WideBits
import HandS.WordsExc
import HandS.Zip
import KE.KExcInit
import PySem.Challenge.RW_fewtests_k54_marked_writers
set_option Elab.async false
set_option linter.all false
set_option maxRecDepth 100000
set_option maxHeartbeats 2000000
set_option pp.maxSteps 1500
set_option pp.deepTerms false
namespace Toy
open PySem L2
open C8 (Cal cal0 pe_c pss_cut fnScope fnBody fnScope_by)
/-! ### the text by places -/
def top (i : Nat) : Stmt := PySem.Challenge.pw_fewtests_k54_marked_writers.main.body.getD i (.Pass ⟨0, 0, 0, 0⟩)
abbrev stC_LimitExceeded___init__ : Stmt := (C8.clsBody (top 1)).getD 0 (.Pass ⟨0, 0, 0, 0⟩)
abbrev st_most_letters_ : Stmt := top 6
abbrev st_joined_ : Stmt := top 7
abbrev st_letters_in_ : Stmt := top 8
abbrev st_entry_along_ : Stmt := top 10
abbrev st_own_fills_ : Stmt := top 11
abbrev st_put_in_ : Stmt := top 12
abbrev st_require_bounds_ : Stmt := top 13
abbrev st_text_for_ : Stmt := top 15
abbrev st_behind_from_ : Stmt := top 16
abbrev st_text_from_ : Stmt := top 17
abbrev st_filled : Stmt := top 18
abbrev st_made : Stmt := top 19
abbrev st_marked_ : Stmt := top 21
abbrev st_law_pen : Stmt := top 23
abbrev st_law_fresh : Stmt := top 24
abbrev st_law_draw : Stmt := top 25
abbrev st_law_one_of : Stmt := top 26
abbrev st_law_piece : Stmt := top 27
abbrev st_law_normal : Stmt := top 28
abbrev st_law_fill : Stmt := top 29
abbrev st_law_fills : Stmt := top 30
abbrev st_law_end : Stmt := top 31
abbrev st_law_writer : Stmt := top 32
abbrev st_law_word : Stmt := top 33
abbrev st_law_made : Stmt := top 34
abbrev st_law_onward : Stmt := top 35
abbrev st_law_behind : Stmt := top 36
abbrev st_law_told : Stmt := top 37
abbrev st_law_filled : Stmt := top 38
abbrev st_law_entry : Stmt := top 39
abbrev st_law_marked : Stmt := top 40
abbrev st_law_unmarked : Stmt := top 41
abbrev st_law_limit : Stmt := top 42
abbrev st_law_long_right : Stmt := top 43
abbrev st_law_ : Stmt := top 44

theorem iteT' {b : Bool} {A B : Prop} (e : b = true) (h : A) : if b = true then A else B := by
  rw [if_pos e]
  exact h
theorem iteF' {b : Bool} {A B : Prop} (e : b = false) (h : B) : if b = true then A else B := by
  rw [e]
  exact iteF h
/-! ### the pen -/
/-- the pen at p: cells at c (some ints), a place, what is left -/
def Pen (H : Hp) (p c : Addr) : Prop := ∃ (ns : List Int) (i j : Int), H p = some (.lst [.ref c, .int i, .int j]) ∧ H c = some (.lst (ns.map V.int))
theorem pen_ne {H : Hp} {p c : Addr} {ns : List Int} {i j : Int} (h : H p = some (.lst [.ref c, .int i, .int j])) (h2 : H c = some (.lst (ns.map V.int))) : p ≠ c := by
  refine ne_of h h2 fun e => ?_
  injection e with e
  cases ns with
  | nil => cases e
  | cons a r =>
    rw [List.map_cons] at e
    injection e with e1 e2
    cases e1
/-- all but p stands as it stood, the pen at p stands -/
structure Kp (p c : Addr) (H H' : Hp) : Prop where
  but : ∀ b o, b ≠ p → H b = some o → H' b = some o
  pen : Pen H' p c
theorem Kp.rfl' {p c : Addr} {H : Hp} (h : Pen H p c) : Kp p c H H := ⟨fun _ _ _ e => e, h⟩
theorem Kp.trans {p c : Addr} {H H1 H2 : Hp} (a : Kp p c H H1) (b : Kp p c H1 H2) : Kp p c H H2 := ⟨fun x o n e => b.but x o n (a.but x o n e), b.pen⟩
theorem Pen.ne {H : Hp} {p c q : Addr} (h : Pen H p c) (hq : H q = none) : q ≠ p := by
  obtain ⟨ns, i, j, h1, _⟩ := h
  exact (ne_of_none h1 hq).symm
theorem Pen.neC {H : Hp} {p c q : Addr} (h : Pen H p c) (hq : H q = none) : q ≠ c := by
  obtain ⟨ns, i, j, _, h1⟩ := h
  exact (ne_of_none h1 hq).symm
theorem Pen.put {H : Hp} {p c q : Addr} {o : HO} (h : Pen H p c) (n1 : q ≠ p) (n2 : q ≠ c) : Pen (upd H q o) p c := by
  obtain ⟨ns, i, j, h1, h2⟩ := h
  exact ⟨ns, i, j, by rw [upd_ne n1.symm]; exact h1, by rw [upd_ne n2.symm]; exact h2⟩
theorem Pen.new {H : Hp} {p c q : Addr} {o : HO} (h : Pen H p c) (hq : H q = none) : Pen (upd H q o) p c := h.put (h.ne hq) (h.neC hq)
theorem Kp.new {H H' : Hp} {p c q : Addr} {o : HO} (h : Kp p c H H') (hq : H' q = none) : Kp p c H (upd H' q o) :=
  ⟨fun b u n e => by rw [upd_ne (ne_of_none (h.but b u n e) hq)]; exact h.but b u n e, h.pen.new hq⟩
/-- something made since is changed -/
theorem Kp.put {H H' : Hp} {p c q : Addr} {o : HO} (h : Kp p c H H') (hP : Pen H p c) (hq : H q = none) : Kp p c H (upd H' q o) :=
  ⟨fun b u n e => by rw [upd_ne (ne_of_none e hq)]; exact h.but b u n e, h.pen.put (hP.ne hq) (hP.neC hq)⟩
theorem Kp.free {H H' : Hp} {p c q : Addr} (h : Kp p c H H') (hq : H' q = none) : H q = none := by
  cases e : H q with
  | none => rfl
  | some o =>
    rw [h.but q o (h.pen.ne hq) e] at hq
    cases hq
theorem Kp.seqL {K : PySem.W.Frag} {p c a : Addr} {H H' : Hp} {xs : List V} (k : Kp p c H H') (n : a ≠ p) (h : SqL K H a xs) : SqL K H' a xs := by
  rcases h with (h | ⟨o, h⟩) | h
  · exact .inl (.inl (k.but _ _ n h))
  · exact .inl (.inr ⟨o, k.but _ _ n h⟩)
  · exact .inr h

/-- the built-in names that these defs read -/
structure BN (mg : Str → Option Value) : Prop where
  list : mg "list" = none
  int : mg "int" = none
  len : mg "len" = none
  range : mg "range" = none

def spPen (K : PySem.W.Frag) : Sp := fun vs H Q _ => ∃ (a : Addr) (ns : List Int), vs = [.ref a] ∧ SqL K H a (ns.map V.int) ∧
  ∀ H' p c, Same H H' → Pen H' p c → H p = none → Q (.ref p) H'
def spFresh : Sp := fun vs H Q _ => ∃ p c : Addr, vs = [.ref p] ∧ Pen H p c ∧ ∀ (z : Int) H', Kp p c H H' → Q (.int z) H'
/-- a number from 0 to b - 1 -/
def spDraw : Sp := fun vs H Q _ => ∃ (p c : Addr) (b : Int), vs = [.ref p, .int b] ∧ Pen H p c ∧ 0 < b ∧ b.natAbs.log2 < 9000 ∧
  ∀ (d : Int) H', 0 ≤ d → d < b → Kp p c H H' → Q (.int d) H'

theorem sc_pen : FnScope ["script"] ["script"] (fnScope st_law_pen) := fnScope_by (by decide +kernel)
theorem sc_fresh : FnScope ["pen", "place", "cells", "cell", "prime", "state", "found", "lap"] ["pen"] (fnScope st_law_fresh) := fnScope_by (by decide +kernel)
theorem sc_draw : FnScope ["pen", "bound", "digit"] ["pen", "bound"] (fnScope st_law_draw) := fnScope_by (by decide +kernel)

/-- a list of ints is data -/
theorem dp_ints {K : PySem.W.Frag} {H : Hp} : ∀ ns : List Int, DpAll K H (ns.map V.int) (ns.map PyData.int)
  | [] => .nil
  | n :: r => .cons (.int n) (dp_ints r)
theorem shaped_ints (ns : List Int) : SeqAt.shaped (.list (ns.map PyData.int)) = true := by
  have h : ∀ l : List Int, PyData.canLayAll0 (l.map PyData.int) = true ∧ PyData.depthAll (l.map PyData.int) = 0 := by
    intro l
    induction l with
    | nil => exact ⟨by simp only [List.map_nil, PyData.canLayAll0], by simp only [List.map_nil, PyData.depthAll]⟩
    | cons a r ih => exact ⟨by simp only [List.map_cons, PyData.canLayAll0, PyData.canLay0, ih.1, Bool.and_self], by simp only [List.map_cons, PyData.depthAll, PyData.depth, ih.2, Nat.max_self]⟩
  unfold SeqAt.shaped
  simp only [PyData.canLay0, PyData.depth, (h ns).1, (h ns).2, Bool.true_and]
  decide
theorem ints_ne_nil (ns : List Int) : (!PyData.eqv (.list (ns.map PyData.int)) (.list [])) = !ns.isEmpty := by
  cases ns with
  | nil => simp only [List.map_nil, PyData.eqv, PyData.eqvAll, List.isEmpty_nil]
  | cons a r => simp only [List.map_cons, PyData.eqv, PyData.eqvAll, List.isEmpty_cons]
theorem prime_ok : (-(2 ^ 64) < (2305843009213693951 : Int) ∧ (2305843009213693951 : Int) < 2 ^ 64) := by decide

section
variable {P : Program} {w : World} {K : PySem.W.Frag} {mg : Str → Option Value} {base : Heap} {f : Addr} {fd : FuncData}
theorem cal_pen (F : C8.Def K mg "_law_pen" st_law_pen f fd) (b : Binds K fd ["script"] []) (B : BN mg) : Cal P w K mg base 1 "_law_pen" (spPen K) [] := by
  refine cal0 F b .nil sc_pen (fun vs H Q E h => ?_) (fun cdv A outer s H vs Q E hr h => ?_)
  · obtain ⟨a, ns, rfl, _⟩ := h
    rfl
  · obtain ⟨a, ns, rfl, hS, k⟩ := h
    refine ⟨_, pss_one (ps_ret (pe_lst (pa_cons (pe_callTy call_list_of (by rfl) B.list (by decide +kernel) (pa_cons (pe_slice sl_list (pv 0) po_none (po_some pe_int)) pa_nil)) (pa_cons pe_int (pa_cons pe_int pa_nil))))), ?_⟩
    refine ⟨_, rfl, _, rfl, a, _, rfl, hS, fun p hp => ?_⟩
    refine ⟨p, _, rfl, .inl (SqL.of upd_same), fun l hl => ?_⟩
    refine ⟨(by show 3 ≤ sizeLine; decide), fun q hq => ?_⟩
    have hl0 : H l = none := by
      have n : l ≠ p := fun z => by
        rw [z, upd_same] at hl
        cases hl
      rw [upd_ne n] at hl
      exact hl
    have s1 : Same H (upd (upd H p (.lst (cutV (ns.map V.int) none (some 63)))) l (.lst (cutV (ns.map V.int) none (some 63)))) := fun b o e => by
      rw [upd_ne (ne_of_none e hl0), upd_ne (ne_of_none e hp)]
      exact e
    obtain ⟨ms, hms⟩ : ∃ ms : List Int, cutV (ns.map V.int) none (some 63) = ms.map V.int := by
      unfold cutV
      rw [← List.map_drop, ← List.map_take]
      exact ⟨_, rfl⟩
    refine k _ q l (fun b o e => ?_) ⟨ms, 0, 0, upd_same, ?_⟩ (s1.free hq)
    · rw [upd_ne (ne_of_none (s1 b o e) hq)]
      exact s1 b o e
    · have n : l ≠ q := fun z => by
        rw [← z, upd_same] at hq
        cases hq
      rw [upd_ne n, upd_same, hms]
theorem cal_fresh (F : C8.Def K mg "_law_fresh" st_law_fresh f fd) (b : Binds K fd ["pen"] []) (B : BN mg) : Cal P w K mg base 1 "_law_fresh" spFresh [] := by
  refine cal0 F b .nil sc_fresh (fun vs H Q E h => ?_) (fun cdv A outer s H vs Q E hr h => ?_)
  · obtain ⟨p, c, rfl, _⟩ := h
    rfl
  · obtain ⟨p, c, rfl, ⟨ns, i, j, hp, hc⟩, k⟩ := h
    have hpc := pen_ne hp hc
    refine ⟨_, pss_cons (ps_par (i := 1) (j := 2) rfl sc_fresh.nd rfl rfl (by decide) rfl rfl (pa_cons (pe_ix ix_list (pv 0) pe_int (fun _ _ => rfl)) (pa_cons (pe_ix ix_list (pv 0) pe_int (fun _ _ => rfl)) pa_nil)) (by rfl))
      (pss_cons (ps_asg (pe_op op_add (pv 1) pe_int) (pg_sub (pv 0) pe_int set_list))
      (pss_cut (ps_set (i := 3) sc_fresh.nd rfl (Or.inl rfl) (pe_ifExp (pt_cmpR (op_neD hr.units) (pv 2) (pe_lst pa_nil) (nomark _)) (pe_ix ix_list (pv 2) (pe_op op_mod (pe_callTy call_int1 (by rfl) B.int (by decide +kernel) (pa_cons (pv 1) pa_nil)) (pe_callB call_len_seq (by rfl) B.len PySem.boot_len (pa_cons (pv 2) pa_nil))) (fun _ _ => rfl)) pe_int))
      (pss_cut (ps_if (PW.pt (pw_and (pt_cmpR op_lt (pv 1) (pe_callB call_len_seq (by rfl) B.len PySem.boot_len (pa_cons (pv 2) pa_nil)) (nomark _)) (pw_and1 (pt_cmpR op_ge (pv 3) (pe_op op_pow pe_int pe_int) (nomark _))))) (pss_one (ps_ret (pe_op op_sub (pv 3) (pe_op op_pow pe_int pe_int)))) pss_nil)
      (pss_cons (ps_set (i := 4) sc_fresh.nd rfl (Or.inl rfl) pe_int)
      (pss_cons (ps_set (i := 5) sc_fresh.nd rfl (Or.inl rfl) (pe_op op_mod (pe_callTy call_int1 (by rfl) B.int (by decide +kernel) (pa_cons (pe_op op_add (pe_op op_add (pe_op op_mul (pv 3) pe_int) (pe_op op_mul pe_int (pv 1))) pe_int) pa_nil)) (pv 4)))
      (pss_cons (ps_set (i := 6) sc_fresh.nd rfl (Or.inl rfl) (pv 5))
      (pss_cons (ps_for PassesOwn.never rfl (pi_range1 rfl B.range (pa_cons pe_int pa_nil)) (pg_name (i := 7) sc_fresh.nd rfl (Or.inl rfl))
        (pss_cons (ps_set (i := 5) sc_fresh.nd rfl (Or.inl rfl) (pe_op op_mod (pe_callTy call_int1 (by rfl) B.int (by decide +kernel) (pa_cons (pe_op op_add (pe_op op_add (pe_op op_mul (pv 5) (pv 5)) (pe_op op_mul (pe_op op_mul pe_int (pe_op op_add (pv 7) pe_int)) (pe_op op_add (pv 1) pe_int))) (pv 3)) pa_nil)) (pv 4)))
        (pss_one (ps_set (i := 6) sc_fresh.nd rfl (Or.inl rfl) (pe_op op_add (pe_op op_mul (pv 6) (pv 4)) (pv 5))))))
      (pss_one (ps_ret (pv 6)))))))))), ?_⟩
    refine ⟨_, rfl, p, _, _, _, rfl, rfl, SqL.of hp, atI_nat (j := 1) rfl, _, rfl, p, _, _, _, rfl, rfl, SqL.of hp, atI_nat (j := 0) rfl, _, _, rfl, ?_⟩
    refine ⟨_, rfl, _, _, rfl, rfl, _, rfl, p, _, _, 1, rfl, rfl, hp, rfl, ?_⟩
    have hp1 : upd H p (.lst [.ref c, .int (i + 1), .int j]) p = some (.lst [.ref c, .int (i + 1), .int j]) := upd_same
    have hc1 : upd H p (.lst [.ref c, .int (i + 1), .int j]) c = some (.lst (ns.map V.int)) := by
      rw [upd_ne hpc.symm]
      exact hc
    have k1 : Kp p c H (upd H p (.lst [.ref c, .int (i + 1), .int j])) := ⟨fun b o n e => by rw [upd_ne n]; exact e, ns, i + 1, j, hp1, hc1⟩
    -- behind the third statement the cell is some number; a new empty list stands
    refine ⟨fun σ H' => (∃ z : Int, σ = [some (.ref p), some (.int i), some (.ref c), some (.int z), none, none, none, none]) ∧ Kp p c H H' ∧ H' c = some (.lst (ns.map V.int)), ?_, ?_⟩
    · refine ⟨_, rfl, Nat.zero_le _, fun q hq => ?_⟩
      have k2 : Kp p c H (upd (upd H p (.lst [.ref c, .int (i + 1), .int j])) q (.lst [])) := k1.new hq
      have hc2 : upd (upd H p (.lst [.ref c, .int (i + 1), .int j])) q (.lst []) c = some (.lst (ns.map V.int)) := by
        rw [upd_ne (ne_of_none hc1 hq)]
        exact hc1
      refine ⟨.list (ns.map PyData.int), .list [], .lst (SqL.of hc2) (dp_ints ns), .lst (SqL.of upd_same) .nil, shaped_ints ns, by decide, _, rfl, ?_⟩
      rw [ints_ne_nil]
      cases ns with
      | nil =>
        refine iteF ?_
        exact ⟨⟨0, rfl⟩, k2, hc2⟩
      | cons n r =>
        refine iteT ?_
        have hm : (0 : Int) ≤ i % (((n :: r).map V.int).length : Nat) ∧ i % (((n :: r).map V.int).length : Nat) < (((n :: r).map V.int).length : Nat) := by
          have h0 : (0 : Int) < (((n :: r).map V.int).length : Nat) := by
            rw [List.length_map, List.length_cons]
            omega
          exact ⟨Int.emod_nonneg _ (by omega), Int.emod_lt_of_pos _ h0⟩
        obtain ⟨u, hu⟩ : ∃ u : Nat, i % (((n :: r).map V.int).length : Nat) = (u : Int) := ⟨_, (Int.toNat_of_nonneg hm.1).symm⟩
        have hlt : u < (n :: r).length := by
          have q := hm.2
          rw [hu, List.length_map] at q
          omega
        refine ⟨_, rfl, _, rfl, .inl ⟨_, rfl, _, rfl, c, _, rfl, .inl (SqL.of hc2), _, _, rfl, rfl, ?_, c, _, _, .int ((n :: r)[u]), rfl, rfl, SqL.of hc2, ?_, ⟨_, rfl⟩, k2, hc2⟩⟩
        · rw [List.length_map, List.length_cons]
          omega
        · rw [hu]
          exact atI_nat (by rw [List.getElem?_map, List.getElem?_eq_getElem hlt]; rfl)
    · rintro σ H2 ⟨⟨z, rfl⟩, k2, hc2⟩
      refine ⟨fun σ H' => σ = [some (.ref p), some (.int i), some (.ref c), some (.int z), none, none, none, none] ∧ H' = H2, ?_, ?_⟩
      · refine ⟨_, rfl, _, rfl, c, _, rfl, .inl (SqL.of hc2), _, _, rfl, rfl, _, rfl, ?_⟩
        refine ite2 (fun _ => ?_) (fun _ => ?_)
        · refine ⟨_, rfl, _, _, rfl, rfl, ⟨by decide, by decide, by decide⟩, _, _, rfl, rfl, _, rfl, ?_⟩
          refine ite2 (fun _ => ?_) (fun _ => ?_)
          · exact ⟨_, rfl, _, _, rfl, rfl, ⟨by decide, by decide, by decide⟩, _, _, rfl, rfl, k _ _ k2⟩
          · exact ⟨rfl, rfl⟩
        · exact iteF ⟨rfl, rfl⟩
      · rintro σ H3 ⟨rfl, rfl⟩
        refine ⟨_, rfl, _, _, rfl, rfl, .inr ⟨by decide, by decide⟩, _, rfl, _, _, rfl, rfl, .inl ⟨by decide, by decide⟩, _, _, rfl, rfl, _, _, rfl, rfl, .inl ⟨_, rfl, ?_⟩⟩
        refine ⟨_, rfl, _, _, rfl, rfl, (by show (0 : Int) < 2305843009213693951; decide), ?_⟩
        refine ⟨_, rfl, ?_⟩
        refine ⟨6, rfl, by decide, by decide, for_range (n := 6) (fun _ σ H' => H' = H3 ∧ ∃ (st fo : Int) (v : Option V), 0 ≤ st ∧ st < 2305843009213693951 ∧ σ = [some (.ref p), some (.int i), some (.ref c), some (.int z), some (.int 2305843009213693951), some (.int st), some (.int fo), v]) ⟨rfl, _, _, _, Int.emod_nonneg _ (by decide), Int.emod_lt_of_pos _ (by decide), rfl⟩ ?_ ?_⟩
        · rintro i' σ H4 hi ⟨rfl, st, fo, v, h0, h1, rfl⟩
          refine ⟨_, rfl, _, rfl, _, _, rfl, rfl, .inl ⟨by omega, by omega⟩, _, rfl, _, _, rfl, rfl, _, _, rfl, rfl, .inl ⟨by decide, by decide⟩, _, rfl, _, _, rfl, rfl, _, _, rfl, rfl, .inl ⟨by omega, by omega⟩, _, _, rfl, rfl, _, rfl, _, _, rfl, rfl, .inl ⟨_, rfl, ?_⟩⟩
          refine ⟨_, rfl, _, _, rfl, rfl, (by show (0 : Int) < 2305843009213693951; decide), ?_⟩
          refine ⟨_, rfl, _, rfl, _, _, rfl, rfl, .inr prime_ok, _, rfl, _, _, rfl, rfl, ?_⟩
          exact ⟨rfl, _, _, _, Int.emod_nonneg _ (by decide), Int.emod_lt_of_pos _ (by decide), rfl⟩
        · rintro σ H4 ⟨rfl, st, fo, v, h0, h1, rfl⟩
          exact ⟨_, rfl, k _ _ k2⟩
theorem cal_draw (F : C8.Def K mg "_law_draw" st_law_draw f fd) (b : Binds K fd ["pen", "bound"] []) (B : BN mg) (Cf : Cal P w K mg base 1 "_law_fresh" spFresh []) : Cal P w K mg base 2 "_law_draw" spDraw [] := by
  refine cal0 F b .nil sc_draw (fun vs H Q E h => ?_) (fun cdv A outer s H vs Q E hr h => ?_)
  · obtain ⟨p, c, n, rfl, _⟩ := h
    rfl
  · obtain ⟨p, c, n, rfl, hP, h0, h9, k⟩ := h
    refine ⟨_, pss_cut (ps_if (pt_cmpR op_lt (pe_ix ix_list (pv 0) pe_int (fun _ _ => rfl)) (pv 1) (nomark _)) (pss_one (ps_asg (pe_c Cf hr (by decide) (by rfl) (pa_cons (pv 0) pa_nil)) (pg_sub (pv 0) pe_int set_list))) pss_nil)
      (pss_cons (ps_set (i := 2) sc_draw.nd rfl (Or.inl rfl) (pe_op op_mod (pe_callTy call_int1 (by rfl) B.int (by decide +kernel) (pa_cons (pe_ix ix_list (pv 0) pe_int (fun _ _ => rfl)) pa_nil)) (pv 1)))
      (pss_cons (ps_asg (pe_op op_fdivW (pe_callTy call_int1 (by rfl) B.int (by decide +kernel) (pa_cons (pe_ix ix_list (pv 0) pe_int (fun _ _ => rfl)) pa_nil)) (pv 1)) (pg_sub (pv 0) pe_int set_list))
      (pss_one (ps_ret (pv 2))))), ?_⟩
    refine ⟨fun σ H' => σ = [some (.ref p), some (.int n), none] ∧ Kp p c H H', ?_, ?_⟩
    · obtain ⟨ns, i, j, hp, hc⟩ := id hP
      refine ⟨_, rfl, p, _, _, _, rfl, rfl, SqL.of hp, atI_nat (j := 2) rfl, _, rfl, _, _, rfl, rfl, _, rfl, ?_⟩
      refine ite2 (fun _ => ?_) (fun _ => ?_)
      · refine ⟨_, rfl, p, c, rfl, hP, fun z H1 k1 => ?_⟩
        obtain ⟨ns1, i1, j1, hp1, hc1⟩ := k1.pen
        refine ⟨_, rfl, p, _, _, 2, rfl, rfl, hp1, rfl, rfl, k1.trans ⟨fun b o n e => by rw [upd_ne n]; exact e, ns1, i1, z, upd_same, ?_⟩⟩
        rw [upd_ne (pen_ne hp1 hc1).symm]
        exact hc1
      · exact ⟨rfl, Kp.rfl' hP⟩
    · rintro σ H1 ⟨rfl, k1⟩
      obtain ⟨ns, i, j, hp, hc⟩ := k1.pen
      refine ⟨_, rfl, p, _, _, _, rfl, rfl, SqL.of hp, atI_nat (j := 2) rfl, .inl ⟨_, rfl, _, rfl, _, _, rfl, rfl, h0, ?_⟩⟩
      refine ⟨_, rfl, p, _, _, _, rfl, rfl, SqL.of hp, atI_nat (j := 2) rfl, .inl ⟨_, rfl, _, rfl, _, _, rfl, rfl, ⟨h0, h9⟩, _, rfl, p, _, _, 2, rfl, rfl, hp, rfl, ?_⟩⟩
      refine ⟨_, rfl, k _ _ (Int.emod_nonneg _ (by omega)) (Int.emod_lt_of_pos _ h0) (k1.trans ⟨fun b o n e => by rw [upd_ne n]; exact e, ns, i, j / n, upd_same, ?_⟩)⟩
      rw [upd_ne (pen_ne hp hc).symm]
      exact hc
end

/-! ### one of some things; texts, words -/
/-- a part of a list that is not the pen, or a sign of a text -/
def spOne (K : PySem.W.Frag) : Sp := fun vs H Q _ => ∃ p c : Addr, Pen H p c ∧
  ((∃ (a : Addr) (xs : List V), vs = [.ref p, .ref a] ∧ a ≠ p ∧ SqL K H a xs ∧ 0 < xs.length ∧ xs.length < 1000 ∧ ∀ (x : V) H', x ∈ xs → Kp p c H H' → Q x H') ∨
   (∃ z : Str, vs = [.ref p, .str z] ∧ 0 < z.length ∧ z.length < 1000 ∧ ∀ (g : Nat) H', g ∈ z.cps.toList → Kp p c H H' → Q (.str ⟨#[g]⟩) H'))
theorem sc_one : FnScope ["pen", "rows"] ["pen", "rows"] (fnScope st_law_one_of) := fnScope_by (by decide +kernel)
theorem log_small {b : Int} (h0 : 0 < b) (h : b < 1000) : b.natAbs.log2 < 9000 := by
  have h1 : b.natAbs ≠ 0 := by omega
  rw [Nat.log2_lt h1]
  exact Nat.lt_of_lt_of_le (show b.natAbs < 2 ^ 10 by omega) (Nat.pow_le_pow_right (by decide) (by decide))

/-- a text of small letters, not longer than n -/
structure Tx (n : Nat) (z : Str) : Prop where
  len : z.length ≤ n
  low : ∀ c ∈ z.cps.toList, 97 ≤ c ∧ c ≤ 122
def spPiece : Sp := fun vs H Q _ => ∃ (p c : Addr) (m : Nat), vs = [.ref p, .int m] ∧ Pen H p c ∧ 0 < m ∧ m < 900 ∧
  ∀ (z : Str) H', 0 < z.length → Tx m z → Kp p c H H' → Q (.str z) H'
def abc : List Str := ["ab", "ab", "a", "abc", "abcdefghijklmnopqrstuvwxyz"]
theorem abc_low : ∀ z ∈ abc, 0 < z.length ∧ z.length < 1000 ∧ ∀ c ∈ z.cps.toList, 97 ≤ c ∧ c ≤ 122 := by decide +kernel
/-- texts joined: their signs one behind the other -/
theorem join_nil : ∀ l : List (List Nat), TL.joinL [] l = l.flatten
  | [] => rfl
  | [x] => by
    show x = [x].flatten
    rw [List.flatten_cons, List.flatten_nil, List.append_nil]
  | x :: z :: r => by
    show x ++ ([] ++ TL.joinL [] (z :: r)) = (x :: z :: r).flatten
    rw [List.nil_append, join_nil (z :: r), List.flatten_cons (l := x)]
theorem join_cps (ys : List Str) : (Txt.join "" ys).cps.toList = (ys.map fun y => y.cps.toList).flatten := by
  have e : TL.tl (Txt.join "" ys) = TL.joinL (TL.tl "") (ys.map TL.tl) := (congrArg TL.tl (TL.join_eq "" ys)).trans (TL.tl_join "" ys)
  exact e.trans (join_nil _)
theorem join_len (ys : List Str) : (Txt.join "" ys).length = (ys.map (·.length)).sum := by
  have e : (Txt.join "" ys).length = (Txt.join "" ys).cps.toList.length := (Array.length_toList).symm
  rw [e, join_cps, List.length_flatten, List.map_map]
  exact congrArg List.sum (List.map_congr_left fun y _ => Array.length_toList)
theorem lens_one : ∀ ys : List Str, (∀ y ∈ ys, y.length = 1) → (ys.map (·.length)).sum = ys.length
  | [], _ => rfl
  | y :: r, h => by
    rw [List.map_cons, List.sum_cons, h y List.mem_cons_self, lens_one r fun z hz => h z (List.mem_cons_of_mem _ hz), List.length_cons]
    omega
section
variable {P : Program} {w : World} {K : PySem.W.Frag} {mg : Str → Option Value} {base : Heap} {f : Addr} {fd : FuncData}
theorem cal_one (F : C8.Def K mg "_law_one_of" st_law_one_of f fd) (b : Binds K fd ["pen", "rows"] []) (B : BN mg) (Cd : Cal P w K mg base 2 "_law_draw" spDraw []) : Cal P w K mg base 3 "_law_one_of" (spOne K) [] := by
  refine cal0 F b .nil sc_one (fun vs H Q E h => ?_) (fun cdv A outer s H vs Q E hr h => ?_)
  · obtain ⟨p, c, _, h⟩ := h
    rcases h with ⟨a, xs, rfl, _⟩ | ⟨z, rfl, _⟩ <;> rfl
  · obtain ⟨p, c, hP, h⟩ := h
    refine ⟨_, pss_one (ps_ret (pe_ix (IxR.or ix_list ix_str) (pv 1) (pe_c Cd hr (by decide) (by rfl) (pa_cons (pv 0) (pa_cons (pe_callB (CallR.or call_len_seq call_len_str) (by rfl) B.len PySem.boot_len (pa_cons (pv 1) pa_nil)) pa_nil))) (fun _ _ => rfl))), ?_⟩
    rcases h with ⟨a, xs, rfl, na, hS, h0, h1, k⟩ | ⟨z, rfl, h0, h1, k⟩
    · refine ⟨_, rfl, _, rfl, _, rfl, .inl ⟨a, xs, rfl, .inl hS, p, c, _, rfl, hP, by omega, log_small (by omega) (by omega), fun d H1 d0 d1 k1 => ?_⟩⟩
      obtain ⟨u, rfl⟩ : ∃ u : Nat, d = (u : Int) := ⟨_, (Int.toNat_of_nonneg d0).symm⟩
      have hlt : u < xs.length := by omega
      exact .inl ⟨a, xs, _, xs[u], rfl, rfl, k1.seqL na hS, atI_nat (List.getElem?_eq_getElem hlt), k _ _ (List.getElem_mem hlt) k1⟩
    · refine ⟨_, rfl, _, rfl, _, rfl, .inr ⟨z, rfl, Nat.le_of_lt (Nat.lt_of_lt_of_le h1 (by decide)), p, c, _, rfl, hP, by omega, log_small (by omega) (by omega), fun d H1 d0 d1 k1 => ?_⟩⟩
      obtain ⟨u, rfl⟩ : ∃ u : Nat, d = (u : Int) := ⟨_, (Int.toNat_of_nonneg d0).symm⟩
      have hlt : u < z.cps.toList.length := by
        rw [Array.length_toList]
        have e : z.length = z.cps.size := rfl
        omega
      exact .inr ⟨z, _, z.cps.toList[u], rfl, rfl, Nat.le_of_lt (Nat.lt_of_lt_of_le h1 (by decide)), atI_nat (List.getElem?_eq_getElem hlt), k _ _ (List.getElem_mem hlt) k1⟩
end

/-! ### a drawn text -/
theorem sc_piece : FnScope ["pen", "most", "letters", "lap"] ["pen", "most"] (fnScope st_law_piece) := fnScope_by (by decide +kernel)
section
variable {P : Program} {w : World} {K : PySem.W.Frag} {mg : Str → Option Value} {base : Heap} {f : Addr} {fd : FuncData}
theorem cal_piece (F : C8.Def K mg "_law_piece" st_law_piece f fd) (b : Binds K fd ["pen", "most"] []) (B : BN mg) (Cd : Cal P w K mg base 2 "_law_draw" spDraw []) (Co : Cal P w K mg base 3 "_law_one_of" (spOne K) []) : Cal P w K mg base 4 "_law_piece" spPiece [] := by
  refine cal0 F b .nil sc_piece (fun vs H Q E h => ?_) (fun cdv A outer s H vs Q E hr h => ?_)
  · obtain ⟨p, c, m, rfl, _⟩ := h
    rfl
  · obtain ⟨p, c, m, rfl, hP, m0, m9, k⟩ := h
    refine ⟨_, pss_cons (ps_set (i := 2) sc_piece.nd rfl (Or.inr rfl) (pe_c Co hr (by decide) (by rfl) (pa_cons (pv 0) (pa_cons (pe_lst (pa_cons pe_str (pa_cons pe_str (pa_cons pe_str (pa_cons pe_str (pa_cons pe_str pa_nil)))))) pa_nil))))
      (pss_one (ps_ret (pe_join pe_str (pe_lc (own := [("lap", 3)]) (g := gName 3) (tt := tYes) (by rfl) sc_piece.nd (pi_range1 rfl B.range (pa_cons (pe_op op_add pe_int (pe_c Cd hr (by decide) (by rfl) (pa_cons (pv 0) (pa_cons (pv 1) pa_nil)))) pa_nil))
        (blkOk_by (own := [("lap", 3)]) (N := ["pen", "most", "letters", "lap"]) (sc := fnScope st_law_piece) (by decide +kernel)) (fun _ _ _ _ _ => pg_name (i := 3) sc_piece.nd rfl (Or.inl rfl)) (fun _ _ _ _ _ => pts_nil)
        (fun _ _ _ _ _ => pe_c Co hr (by decide) (by rfl) (pa_cons (pv 0) (pa_cons (pv 2) pa_nil))))))), ?_⟩
    refine ⟨_, rfl, (by show 5 ≤ sizeLine; decide), fun a ha => ⟨p, c, hP.new ha, .inl ⟨a, _, rfl, hP.ne ha, SqL.of upd_same, by decide, by decide, fun x H1 hx k1 => ?_⟩⟩⟩
    obtain ⟨z, hz, rfl⟩ : ∃ z ∈ abc, x = V.str z := by
      have hx' : x ∈ abc.map V.str := hx
      obtain ⟨z, h1, h2⟩ := List.mem_map.mp hx'
      exact ⟨z, h1, h2.symm⟩
    obtain ⟨z0, z1, z2⟩ := abc_low z hz
    have kA : Kp p c H H1 := (Kp.new (Kp.rfl' hP) ha).trans k1
    refine ⟨⟨_, rfl⟩, ?_⟩
    refine ⟨_, rfl, _, rfl, p, c, m, rfl, kA.pen, by omega, log_small (by omega) (by omega), fun d H2 d0 d1 k2 => ?_⟩
    have kB : Kp p c H H2 := kA.trans k2
    refine ⟨_, _, rfl, rfl, 1 + d, rfl, by omega, by omega, fun D hD => ?_⟩
    refine lc_range (lo := 0) (n := (1 + d).toNat) (fun i H' => Kp p c H H' ∧ ∃ ys : List Str, H' D = some (.lst (ys.map V.str)) ∧ H D = none ∧ ys.length = i ∧ ∀ y ∈ ys, y.length = 1 ∧ ∀ c ∈ y.cps.toList, 97 ≤ c ∧ c ≤ 122)
      ⟨kB.new hD, [], upd_same, kB.free hD, rfl, fun y hy => by cases hy⟩ ?_ ?_
    · rintro i H3 hi ⟨k3, ys, hL, hD0, hl, hy⟩
      refine ⟨rfl, ?_⟩
      refine ⟨_, rfl, _, rfl, p, c, k3.pen, .inr ⟨z, rfl, z0, z1, fun g H4 hg k4 => ?_⟩⟩
      have nD : D ≠ p := hP.ne hD0
      have hL4 : H4 D = some (.lst (ys.map V.str)) := k4.but _ _ nD hL
      refine ⟨_, hL4, ?_, ?_⟩
      · rw [List.length_map]
        exact Nat.lt_of_lt_of_le (show ys.length < 1000 by omega) (by decide)
      · refine ⟨(k3.trans k4).put hP hD0, ys ++ [⟨#[g]⟩], ?_, hD0, ?_, ?_⟩
        · rw [upd_same, List.map_append]
          rfl
        · rw [List.length_append, hl]
          rfl
        · intro y hm
          rcases List.mem_append.mp hm with hm | hm
          · exact hy y hm
          · obtain rfl := List.mem_singleton.mp hm
            exact ⟨rfl, fun c' hc' => by
              obtain rfl : c' = g := by simpa using hc'
              exact z2 _ hg⟩
    · rintro H3 ⟨k3, ys, hL, hD0, hl, hy⟩
      refine ⟨_, D, ys, rfl, rfl, .inl (SqL.of hL), ?_, ?_⟩
      · rw [lens_one ys fun y hy' => (hy y hy').1]
        have e0 : (("" : Str)).length = 0 := by decide
        rw [e0]
        omega
      · refine k _ _ ?_ ⟨?_, ?_⟩ k3
        · rw [join_len, lens_one ys fun y hy' => (hy y hy').1]
          omega
        · rw [join_len, lens_one ys fun y hy' => (hy y hy').1]
          omega
        · intro c' hc'
          rw [join_cps] at hc'
          obtain ⟨l, h1, h2⟩ := List.mem_flatten.mp hc'
          obtain ⟨y, h3, rfl⟩ := List.mem_map.mp h1
          exact (hy y h3).2 _ h2
end

/-! ### words drawn -/
/-- a word of kinds below b, not longer than n -/
def Wd (b : Int) (n : Nat) (ks : List Int) : Prop := ks.length ≤ n ∧ ∀ k ∈ ks, 0 ≤ k ∧ k < b
def spWord : Sp := fun vs H Q _ => ∃ (p c : Addr) (b : Int) (n : Nat), vs = [.ref p, .int b, .int n] ∧ Pen H p c ∧ 0 < b ∧ b < 1000 ∧ n < 900 ∧
  ∀ (ks : List Int) (t : Addr) H', Wd b n ks → Kp p c H H' → H t = none → H' t = some (.tup (ks.map V.int)) → Q (.ref t) H'
theorem sc_word : FnScope ["pen", "count", "most", "lap"] ["pen", "count", "most"] (fnScope st_law_word) := fnScope_by (by decide +kernel)

section
variable {P : Program} {w : World} {K : PySem.W.Frag} {mg : Str → Option Value} {base : Heap} {f : Addr} {fd : FuncData}
theorem cal_word (F : C8.Def K mg "_law_word" st_law_word f fd) (b : Binds K fd ["pen", "count", "most"] []) (B : BN mg) (BT : mg "tuple" = none) (Cd : Cal P w K mg base 2 "_law_draw" spDraw []) : Cal P w K mg base 3 "_law_word" spWord [] := by
  refine cal0 F b .nil sc_word (fun vs H Q E h => ?_) (fun cdv A outer s H vs Q E hr h => ?_)
  · obtain ⟨p, c, m, n, rfl, _⟩ := h
    rfl
  · obtain ⟨p, c, m, n, rfl, hP, m0, m9, n9, k⟩ := h
    refine ⟨_, pss_one (ps_ret (pe_callTy call_tuple_of (by rfl) BT (by decide +kernel) (pa_cons (pe_lc (own := [("lap", 3)]) (g := gName 3) (tt := tYes) (by rfl) sc_word.nd (pi_range1 rfl B.range (pa_cons (pe_c Cd hr (by decide) (by rfl) (pa_cons (pv 0) (pa_cons (pe_op op_add (pv 2) pe_int) pa_nil))) pa_nil))
        (blkOk_by (own := [("lap", 3)]) (N := ["pen", "count", "most", "lap"]) (sc := fnScope st_law_word) (by decide +kernel)) (fun _ _ _ _ _ => pg_name (i := 3) sc_word.nd rfl (Or.inl rfl)) (fun _ _ _ _ _ => pts_nil)
        (fun _ _ _ _ _ => pe_c Cd hr (by decide) (by rfl) (pa_cons (pv 0) (pa_cons (pv 1) pa_nil)))) pa_nil))), ?_⟩
    refine ⟨_, rfl, _, rfl, _, _, rfl, rfl, p, c, _, rfl, hP, by omega, log_small (by omega) (by omega), fun d H1 d0 d1 k1 => ?_⟩
    refine ⟨d, rfl, by omega, by omega, fun D hD => ?_⟩
    refine lc_range (lo := 0) (n := d.toNat) (fun i H' => Kp p c H H' ∧ ∃ ks : List Int, H' D = some (.lst (ks.map V.int)) ∧ H D = none ∧ ks.length = i ∧ ∀ z ∈ ks, 0 ≤ z ∧ z < m)
      ⟨k1.new hD, [], upd_same, k1.free hD, rfl, fun y hy => by cases hy⟩ ?_ ?_
    · rintro i H3 hi ⟨k3, ks, hL, hD0, hl, hy⟩
      refine ⟨rfl, ?_⟩
      refine ⟨_, rfl, _, rfl, p, c, _, rfl, k3.pen, m0, log_small m0 m9, fun z H4 z0 z1 k4 => ?_⟩
      refine ⟨_, k4.but _ _ (hP.ne hD0) hL, ?_, ?_⟩
      · rw [List.length_map]
        exact Nat.lt_of_lt_of_le (show ks.length < 1000 by omega) (by decide)
      · refine ⟨(k3.trans k4).put hP hD0, ks ++ [z], ?_, hD0, ?_, ?_⟩
        · rw [upd_same, List.map_append]
          rfl
        · rw [List.length_append, hl]
          rfl
        · intro y hm
          rcases List.mem_append.mp hm with hm | hm
          · exact hy y hm
          · obtain rfl := List.mem_singleton.mp hm
            exact ⟨z0, z1⟩
    · rintro H3 ⟨k3, ks, hL, hD0, hl, hy⟩
      refine ⟨D, _, rfl, .inl ⟨SqL.of hL, fun t ht => ?_⟩⟩
      exact k ks t _ ⟨by omega, hy⟩ (k3.new ht) (k3.free ht) upd_same
end

/-! ### recipes: parts, their buffers, their letters -/
inductive Pt where
  | s (z : Str)
  | b (i : Nat)
abbrev Rc := List Pt
def Pt.v : Pt → V
  | .s z => .str z
  | .b i => .int i
def Pt.d : Pt → PyData
  | .s z => .str z
  | .b i => .int i
def Pt.buf : Pt → List Nat
  | .s _ => []
  | .b i => [i]
def Pt.let : Pt → Nat
  | .s z => z.length
  | .b _ => 0
def Pt.low : Pt → Prop
  | .s z => ∀ c ∈ z.cps.toList, 97 ≤ c ∧ c ≤ 122
  | .b _ => True
def bufs (r : Rc) : List Nat := r.flatMap Pt.buf
def lets (r : Rc) : Nat := (r.map Pt.let).sum
def lowR (r : Rc) : Prop := ∀ q ∈ r, q.low
theorem bufs_app (a b : Rc) : bufs (a ++ b) = bufs a ++ bufs b := List.flatMap_append
theorem lets_app (a b : Rc) : lets (a ++ b) = lets a + lets b := by
  unfold lets
  rw [List.map_append, List.sum_append]
theorem lets_one (q : Pt) : lets [q] = q.let := by
  unfold lets
  rw [List.map_cons, List.map_nil, List.sum_cons, List.sum_nil, Nat.add_zero]
theorem bufs_one (q : Pt) : bufs [q] = q.buf := by
  unfold bufs
  rw [List.flatMap_cons, List.flatMap_nil, List.append_nil]
theorem lowR_app {a b : Rc} (h : lowR a) (h2 : lowR b) : lowR (a ++ b) := fun q hq => (List.mem_append.mp hq).elim (h q) (h2 q)
theorem lowR_one {q : Pt} (h : q.low) : lowR [q] := fun x hx => by
  obtain rfl := List.mem_singleton.mp hx
  exact h
theorem low_strOk {z : Str} (h : ∀ c ∈ z.cps.toList, 97 ≤ c ∧ c ≤ 122) : PyData.strOk z = true := by
  unfold PyData.strOk
  rw [← Array.all_toList, List.all_eq_true]
  intro c hc
  have q := (h c hc).2
  exact decide_eq_true (by omega)
theorem low_cat {x y : Str} (h : ∀ c ∈ x.cps.toList, 97 ≤ c ∧ c ≤ 122) (h2 : ∀ c ∈ y.cps.toList, 97 ≤ c ∧ c ≤ 122) : ∀ c ∈ (x ++ y).cps.toList, 97 ≤ c ∧ c ≤ 122 := by
  intro c hc
  rw [Str.cps_append, Array.toList_append] at hc
  exact (List.mem_append.mp hc).elim (h c) (h2 c)
theorem len_cat (x y : Str) : (x ++ y).length = x.length + y.length := by
  show (x ++ y).cps.size = x.cps.size + y.cps.size
  rw [Str.cps_append, Array.size_append]

/-- the parts put together: pieces side by side become one -/
def nstep (f : Rc) : Pt → Rc
  | .b i => f ++ [.b i]
  | .s z => match f.getLast? with
    | some (.s y) => f.dropLast ++ [.s (y ++ z)]
    | _ => if z = "" then f else f ++ [.s z]
def normal (ps : Rc) : Rc := ps.foldl nstep []
theorem nstep_glue (g : Rc) (y z : Str) : nstep (g ++ [.s y]) (.s z) = g ++ [.s (y ++ z)] := by
  unfold nstep
  rw [List.getLast?_concat, List.dropLast_concat]
theorem nstep_behind (g : Rc) (i : Nat) (z : Str) : nstep (g ++ [.b i]) (.s z) = if z = "" then g ++ [.b i] else g ++ [.b i] ++ [.s z] := by
  unfold nstep
  rw [List.getLast?_concat]
theorem nstep_first (z : Str) : nstep [] (.s z) = if z = "" then [] else [.s z] := rfl
theorem len_empty {z : Str} (h : z = "") : z.length = 0 := by
  subst h
  decide
structure NOk (f : Rc) (q : Pt) (g : Rc) : Prop where
  buf : bufs g = bufs f ++ q.buf
  lt : lets g = lets f + q.let
  len : g.length ≤ f.length + 1
  low : lowR f → q.low → lowR g
theorem nok_push (f : Rc) (q : Pt) : NOk f q (f ++ [q]) :=
  ⟨by rw [bufs_app, bufs_one], by rw [lets_app, lets_one], by rw [List.length_append, List.length_singleton]; exact Nat.le_refl _, fun h1 h2 => lowR_app h1 (lowR_one h2)⟩
theorem nok_same (f : Rc) {z : Str} (h : z = "") : NOk f (.s z) f :=
  ⟨(List.append_nil _).symm, by show lets f = lets f + z.length; rw [len_empty h, Nat.add_zero], Nat.le_succ _, fun h1 _ => h1⟩
theorem nok_glue (g : Rc) (y z : Str) : NOk (g ++ [.s y]) (.s z) (g ++ [.s (y ++ z)]) := by
  refine ⟨?_, ?_, ?_, fun h1 h2 => ?_⟩
  · rw [bufs_app, bufs_app, bufs_one, bufs_one]
    show bufs g ++ [] = bufs g ++ [] ++ []
    rw [List.append_nil, List.append_nil]
  · rw [lets_app, lets_app, lets_one, lets_one]
    show lets g + (y ++ z).length = lets g + y.length + z.length
    rw [len_cat, Nat.add_assoc]
  · rw [List.length_append, List.length_append]
    exact Nat.le_succ _
  · refine lowR_app (fun q hq => h1 q (List.mem_append_left _ hq)) (lowR_one ?_)
    exact low_cat (h1 (.s y) (List.mem_append_right _ (List.mem_singleton.mpr rfl))) h2
theorem nstep_ok (f : Rc) (q : Pt) : NOk f q (nstep f q) := by
  cases q with
  | b i => exact nok_push f _
  | s z =>
    rcases List.eq_nil_or_concat f with rfl | ⟨g, l, rfl⟩
    · rw [nstep_first]
      by_cases h : z = ""
      · rw [if_pos h]
        exact nok_same [] h
      · rw [if_neg h]
        exact nok_push [] _
    · rw [List.concat_eq_append]
      cases l with
      | s y =>
        rw [nstep_glue]
        exact nok_glue g y z
      | b i =>
        rw [nstep_behind]
        by_cases h : z = ""
        · rw [if_pos h]
          exact nok_same _ h
        · rw [if_neg h]
          exact nok_push _ _
theorem normal_ok : ∀ (ps f : Rc), bufs (ps.foldl nstep f) = bufs f ++ bufs ps ∧ lets (ps.foldl nstep f) = lets f + lets ps ∧ (ps.foldl nstep f).length ≤ f.length + ps.length ∧ (lowR f → lowR ps → lowR (ps.foldl nstep f))
  | [], f => ⟨(List.append_nil _).symm, rfl, Nat.le_refl _, fun h _ => h⟩
  | q :: r, f => by
    have a := nstep_ok f q
    obtain ⟨h1, h2, h3, h4⟩ := normal_ok r (nstep f q)
    rw [List.foldl_cons]
    refine ⟨?_, ?_, ?_, fun l1 l2 => ?_⟩
    · rw [h1, a.buf, List.append_assoc]
      exact congrArg _ (List.flatMap_cons).symm
    · rw [h2, a.lt, Nat.add_assoc]
      rfl
    · rw [List.length_cons]
      have := a.len
      omega
    · exact h4 (a.low l1 (l2 q List.mem_cons_self)) fun x hx => l2 x (List.mem_cons_of_mem _ hx)
theorem foldl_more {α β : Type} (g : β → α → β) (b : β) {l : List α} {i : Nat} {x : α} (h : l[i]? = some x) : (l.take (i + 1)).foldl g b = g ((l.take i).foldl g b) x := by
  have e : l.take (i + 1) = l.take i ++ [x] := by
    rw [List.take_add_one, h]
    rfl
  rw [e, List.foldl_append]
  rfl
theorem dp_parts {K : PySem.W.Frag} {H : Hp} : ∀ r : Rc, DpAll K H (r.map Pt.v) (r.map Pt.d)
  | [] => .nil
  | .s z :: r => .cons (.str z) (dp_parts r)
  | .b i :: r => .cons (.int i) (dp_parts r)
theorem parts_flat : ∀ r : Rc, lowR r → PyData.canLayAll0 (r.map Pt.d) = true ∧ PyData.depthAll (r.map Pt.d) = 0
  | [], _ => ⟨by simp only [List.map_nil, PyData.canLayAll0], by simp only [List.map_nil, PyData.depthAll]⟩
  | .s z :: r, h => by
    obtain ⟨h1, h2⟩ := parts_flat r fun q hq => h q (List.mem_cons_of_mem _ hq)
    have h3 : PyData.strOk z = true := low_strOk (h (.s z) List.mem_cons_self)
    exact ⟨by simp only [List.map_cons, Pt.d, PyData.canLayAll0, PyData.canLay0, h1, h3, Bool.and_self], by simp only [List.map_cons, Pt.d, PyData.depthAll, PyData.depth, h2, Nat.max_self]⟩
  | .b i :: r, h => by
    obtain ⟨h1, h2⟩ := parts_flat r fun q hq => h q (List.mem_cons_of_mem _ hq)
    exact ⟨by simp only [List.map_cons, Pt.d, PyData.canLayAll0, PyData.canLay0, h1, Bool.and_self], by simp only [List.map_cons, Pt.d, PyData.depthAll, PyData.depth, h2, Nat.max_self]⟩
theorem shaped_parts (r : Rc) (h : lowR r) : SeqAt.shaped (.list (r.map Pt.d)) = true := by
  obtain ⟨h1, h2⟩ := parts_flat r h
  unfold SeqAt.shaped
  simp only [PyData.canLay0, PyData.depth, h1, h2, Bool.true_and]
  decide
theorem list_ne_nil (ds : List PyData) : (!PyData.eqv (.list ds) (.list [])) = !ds.isEmpty := by
  cases ds with
  | nil => simp only [PyData.eqv, PyData.eqvAll, List.isEmpty_nil]
  | cons a r => simp only [PyData.eqv, PyData.eqvAll, List.isEmpty_cons]

/-- more built-in names -/
structure BN2 (mg : Str → Option Value) : Prop extends BN mg where
  tuple : mg "tuple" = none
  isi : mg "isinstance" = none
  str : mg "str" = none

def spNormal (K : PySem.W.Frag) : Sp := fun vs H Q _ => ∃ (a : Addr) (ps : Rc), vs = [.ref a] ∧ SqL K H a (ps.map Pt.v) ∧ ps.length ≤ 1000 ∧ lets ps ≤ 100000 ∧ lowR ps ∧
  ∀ t H', Same H H' → H t = none → H' t = some (.tup ((normal ps).map Pt.v)) → Q (.ref t) H'
/-- isinstance(part, str) -/
theorem isi_pt {K : PySem.W.Frag} {H : Hp} (q : Pt) : ∃ (t : Value) (b : Bool), TyX K H q.v t ∧ PySem.W.kitOne K t (.type "str") = some b ∧ (b = true → ∃ z, q = .s z) ∧ (b = false → ∃ i, q = .b i) := by
  cases q with
  | s z => exact ⟨_, true, .base (.str z), kit_ty (by decide +kernel), fun _ => ⟨z, rfl⟩, fun h => (by cases h)⟩
  | b i => exact ⟨_, false, .base (.int i), kit_ty (by decide +kernel), fun h => (by cases h), fun _ => ⟨i, rfl⟩⟩

/-! ### parts put together -/
theorem sc_normal : FnScope ["parts", "found", "part"] ["parts"] (fnScope st_law_normal) := fnScope_by (by decide +kernel)
section
variable {P : Program} {w : World} {K : PySem.W.Frag} {mg : Str → Option Value} {base : Heap} {f : Addr} {fd : FuncData}
theorem cal_normal (F : C8.Def K mg "_law_normal" st_law_normal f fd) (b : Binds K fd ["parts"] []) (B : BN2 mg) : Cal P w K mg base 1 "_law_normal" (spNormal K) [] := by
  refine cal0 F b .nil sc_normal (fun vs H Q E h => ?_) (fun cdv A outer s H vs Q E hr h => ?_)
  · obtain ⟨a, ps, rfl, _⟩ := h
    rfl
  · obtain ⟨a, ps, rfl, hS, hlen, hlets, hlow, k⟩ := h
    refine ⟨_, pss_cons (ps_set (i := 1) sc_normal.nd rfl (Or.inl rfl) (pe_lst pa_nil))
      (pss_cons (ps_for PassesOwn.never rfl (pi_list (pv 0)) (pg_name (i := 2) sc_normal.nd rfl (Or.inl rfl))
        (pss_one (ps_if (PW.pt (pw_and (pt_val (pe_callB call_isi (by rfl) B.isi (by decide +kernel) (pa_cons (pv 2) (pa_cons (pe_bltn (v := .ty "str") (by rfl) B.str (by decide +kernel) rfl) pa_nil))))
            (pw_and (pt_cmpR (op_neD hr.units) (pv 1) (pe_lst pa_nil) (nomark _)) (pw_and1 (pt_val (pe_callB call_isi (by rfl) B.isi (by decide +kernel) (pa_cons (pe_ix ix_list (pv 1) (pe_un un_neg pe_int) (fun _ _ => rfl)) (pa_cons (pe_bltn (v := .ty "str") (by rfl) B.str (by decide +kernel) rfl) pa_nil))))))))
          (pss_one (ps_asg (pe_op op_add_str (pe_ix ix_list (pv 1) (pe_un un_neg pe_int) (fun _ _ => rfl)) (pv 2)) (pg_sub (pv 1) (pe_un un_neg pe_int) set_list)))
          (pss_one (ps_if (pt_cmpR op_ne (pv 2) pe_str (nomark _)) (pss_one (ps_expr (pe_bm PySem.F.plainAttrs_list PySem.F.slot_list_append PySem.F.type_list_append mt_append (pv 1) (pa_cons (pv 2) pa_nil)))) pss_nil)))))
      (pss_one (ps_ret (pe_callTy call_tuple_of (by rfl) B.tuple (by decide +kernel) (pa_cons (pv 1) pa_nil))))), ?_⟩
    refine ⟨Nat.zero_le _, fun q hq => ?_⟩
    have inv : ∀ i, bufs ((ps.take i).foldl nstep []) = bufs (ps.take i) ∧ lets ((ps.take i).foldl nstep []) ≤ 100000 ∧ ((ps.take i).foldl nstep []).length ≤ 1000 ∧ lowR ((ps.take i).foldl nstep []) := fun i => by
      obtain ⟨h1, h2, h3, h4⟩ := normal_ok (ps.take i) []
      have e : lets ps = lets (ps.take i) + lets (ps.drop i) := by rw [← lets_app, List.take_append_drop]
      refine ⟨h1, ?_, ?_, h4 (fun q hq => by cases hq) fun q hq => hlow q (List.mem_of_mem_take hq)⟩
      · rw [h2]
        show 0 + lets (ps.take i) ≤ 100000
        omega
      · have := List.length_take_le i ps
        simp only [List.length_nil] at h3
        have h5 : (ps.take i).length ≤ ps.length := by rw [List.length_take]; omega
        omega
    refine ⟨_, rfl, a, rfl, ⟨_, (show SqL K (upd H q (.lst [])) a (ps.map Pt.v) from Same.seq (fun b o e => by rw [upd_ne (ne_of_none e hq)]; exact e) hS)⟩, for_list (K := K) (a := a) (xs := ps.map Pt.v)
      (fun i σ H' => (∃ v : Option V, σ = [some (.ref a), some (.ref q), v]) ∧ Same H H' ∧ H' q = some (.lst (((ps.take i).foldl nstep []).map Pt.v)))
      ⟨⟨none, rfl⟩, fun b o e => by rw [upd_ne (ne_of_none e hq)]; exact e, upd_same⟩ (fun i σ H' _ h => h.2.1.seq hS) ?_ ?_⟩
    · rintro i x σ H1 hi ⟨⟨v, rfl⟩, s1, hL⟩
      obtain ⟨y, hy, rfl⟩ : ∃ y, ps[i]? = some y ∧ x = Pt.v y := by
        rw [List.getElem?_map] at hi
        cases e : ps[i]? with
        | none =>
          rw [e] at hi
          cases hi
        | some y =>
          rw [e] at hi
          exact ⟨y, rfl, (Option.some.inj hi).symm⟩
      have step := foldl_more nstep [] hy
      obtain ⟨_, v2, v3, v4⟩ := inv i
      have ylow : y.low := hlow y (List.mem_of_getElem? hy)
      generalize hf : (ps.take i).foldl nstep [] = g at *
      rw [step]
      have push : ∀ (H2 : Hp), Same H H2 → H2 q = some (.lst (g.map Pt.v)) → nstep g y = g ++ [y] → (Same H (upd H2 q (.lst (g.map Pt.v ++ [y.v])))) ∧ upd H2 q (.lst (g.map Pt.v ++ [y.v])) q = some (.lst ((nstep g y).map Pt.v)) := fun H2 s2 _ e => by
        refine ⟨fun b o hb => by rw [upd_ne (ne_of_none hb hq)]; exact s2 b o hb, ?_⟩
        rw [upd_same, e, List.map_append]
        rfl
      obtain ⟨ty, tb, t1, t2, t3, t4⟩ := isi_pt (K := K) (H := H1) y
      refine ⟨_, rfl, y.v, _, ty, _, tb, rfl, .ty _, t1, t2, _, rfl, ?_⟩
      cases tb with
      | false =>
        obtain ⟨j, rfl⟩ := t4 rfl
        refine iteF (iteF ?_)
        refine ⟨_, rfl, rfl, _, rfl, ?_⟩
        have ne : (V.int (j : Nat) ≠ V.str "") := fun e => by cases e
        refine iteT' (by show (!decide (V.int (j : Nat) = V.str "")) = true; rw [decide_eq_false ne]; rfl) ?_
        refine ⟨_, rfl, .inl ⟨rfl, _, SqL.of hL⟩, _, rfl, q, _, _, rfl, rfl, hL, ?_, ?_⟩
        · rw [List.length_map]
          exact Nat.lt_of_le_of_lt v3 (by decide)
        · obtain ⟨a1, a2⟩ := push H1 s1 hL rfl
          exact ⟨⟨_, rfl⟩, a1, a2⟩
      | true =>
        obtain ⟨z, rfl⟩ := t3 rfl
        refine iteT ?_
        refine ⟨_, rfl, Nat.zero_le _, fun e he => ?_⟩
        have hL2 : upd H1 e (.lst []) q = some (.lst (g.map Pt.v)) := by
          rw [upd_ne (ne_of_none hL he)]
          exact hL
        have s2 : Same H (upd H1 e (.lst [])) := fun b o hb => by
          rw [upd_ne (ne_of_none (s1 b o hb) he)]
          exact s1 b o hb
        refine ⟨.list (g.map Pt.d), .list [], .lst (SqL.of hL2) (dp_parts g), .lst (SqL.of upd_same) .nil, shaped_parts g v4, by decide, _, rfl, ?_⟩
        rw [list_ne_nil]
        -- the elif: a piece behind no piece
        have elif : nstep g (.s z) = (if z = "" then g else g ++ [.s z]) → (tIfS (tTest (tOp rNe (tVar 2) (tC (.str "")))) (tDrop (tBM K "list" rAppend (tVar 1) (tCons (tVar 2) tNil))) tNext)
            { nx := fun σ H' => (∃ v : Option V, σ = [some (.ref a), some (.ref q), v]) ∧ Same H H' ∧ H' q = some (.lst ((nstep g (.s z)).map Pt.v)), rt := Q, ct := fun σ H' => (∃ v : Option V, σ = [some (.ref a), some (.ref q), v]) ∧ Same H H' ∧ H' q = some (.lst ((nstep g (.s z)).map Pt.v)), bk := fun _ _ => True }
            [some (.ref a), some (.ref q), some (.str z)] (upd H1 e (.lst [])) := fun en => by
          refine ⟨_, rfl, rfl, _, rfl, ?_⟩
          by_cases hz : z = ""
          · subst hz
            refine iteF' (by show (!decide (V.str "" = V.str "")) = false; rw [decide_eq_true rfl]; rfl) ?_
            refine ⟨⟨_, rfl⟩, s2, ?_⟩
            rw [hL2, en, if_pos rfl]
          · have ne : (V.str z ≠ V.str "") := fun e => hz (by injection e)
            refine iteT' (by show (!decide (V.str z = V.str "")) = true; rw [decide_eq_false ne]; rfl) ?_
            refine ⟨_, rfl, .inl ⟨rfl, _, SqL.of hL2⟩, _, rfl, q, _, _, rfl, rfl, hL2, ?_, ?_⟩
            · rw [List.length_map]
              exact Nat.lt_of_le_of_lt v3 (by decide)
            · rw [if_neg hz] at en
              obtain ⟨a1, a2⟩ := push _ s2 hL2 en
              exact ⟨⟨_, rfl⟩, a1, a2⟩
        rcases List.eq_nil_or_concat g with rfl | ⟨g', l, rfl⟩
        · refine iteF (iteF ?_)
          exact elif (nstep_first z)
        · rw [List.concat_eq_append] at *
          have en : (List.map Pt.d (g' ++ [l])).isEmpty = false := by
            rw [List.map_append]
            cases List.map Pt.d g' <;> rfl
          rw [en]
          refine iteT ?_
          have hL3 : upd H1 e (.lst []) q = some (.lst (g'.map Pt.v ++ [l.v])) := by
            rw [hL2, List.map_append]
            rfl
          obtain ⟨ty2, tb2, u1, u2, u3, u4⟩ := isi_pt (K := K) (H := upd H1 e (.lst [])) l
          refine ⟨_, rfl, _, rfl, q, _, _, l.v, rfl, rfl, SqL.of hL3, atI_last _ _, l.v, _, ty2, _, tb2, rfl, .ty _, u1, u2, _, rfl, ?_⟩
          cases tb2 with
          | false =>
            obtain ⟨j, rfl⟩ := u4 rfl
            refine iteF ?_
            exact elif (nstep_behind g' j z)
          | true =>
            obtain ⟨y', rfl⟩ := u3 rfl
            refine iteT ?_
            have hsz : y'.length + z.length ≤ sizeLine := by
              have e1 : lets (g' ++ [.s y']) = lets g' + y'.length := by rw [lets_app, lets_one]; rfl
              have e2 := (inv (i + 1)).2.1
              rw [step, nstep_glue, lets_app, lets_one] at e2
              have e3 : (Pt.s (y' ++ z)).let = y'.length + z.length := len_cat y' z
              exact Nat.le_trans (show y'.length + z.length ≤ 100000 by omega) (by decide)
            refine ⟨_, rfl, _, rfl, q, _, _, .str y', rfl, rfl, SqL.of hL3, atI_last _ _, _, rfl, y', z, rfl, rfl, hsz, _, rfl, _, rfl, q, _, _, g'.length, rfl, rfl, hL3, ?_, ?_⟩
            · rw [List.length_append, List.length_map, List.length_singleton]
              unfold ixN
              rw [if_neg (by omega), if_pos (by omega)]
              exact congrArg some (by omega)
            · refine ⟨⟨_, rfl⟩, fun b o hb => by rw [upd_ne (ne_of_none hb hq)]; exact s2 b o hb, ?_⟩
              rw [upd_same, nstep_glue, List.map_append]
              refine congrArg some (congrArg HO.lst ?_)
              rw [List.set_append_right _ _ (by rw [List.length_map]; exact Nat.le_refl _), List.length_map, Nat.sub_self]
              rfl
    · rintro σ H1 ⟨⟨v, rfl⟩, s1, hL⟩
      rw [List.length_map, List.take_length] at hL
      refine ⟨_, rfl, q, _, rfl, .inl ⟨SqL.of hL, fun t ht => ?_⟩⟩
      refine k t _ (fun b o e => by rw [upd_ne (ne_of_none (s1 b o e) ht)]; exact s1 b o e) (s1.free ht) upd_same
end

/-! ### tuples over tuples, as data -/
mutual
inductive Tp (H : Hp) : V → PyData → Prop
  | non : Tp H .non .none
  | bl (b : Bool) : Tp H (.bl b) (.bool b)
  | int (i : Int) : Tp H (.int i) (.int i)
  | str (x : Str) : Tp H (.str x) (.str x)
  | tup {a : Addr} {xs : List V} {ds : List PyData} : H a = some (.tup xs) → TpAll H xs ds → Tp H (.ref a) (.tuple ds)
inductive TpAll (H : Hp) : List V → List PyData → Prop
  | nil : TpAll H [] []
  | cons {v : V} {vs : List V} {d : PyData} {ds : List PyData} : Tp H v d → TpAll H vs ds → TpAll H (v :: vs) (d :: ds)
end
/-- all tuples stand -/
def TK (H H' : Hp) : Prop := ∀ b xs, H b = some (.tup xs) → H' b = some (.tup xs)
theorem TK.trans {H H1 H2 : Hp} (a : TK H H1) (b : TK H1 H2) : TK H H2 := fun x o e => b x o (a x o e)
mutual
theorem Tp.mono {H H' : Hp} (k : TK H H') : ∀ {v : V} {d : PyData}, Tp H v d → Tp H' v d
  | _, _, .non => .non
  | _, _, .bl b => .bl b
  | _, _, .int i => .int i
  | _, _, .str x => .str x
  | _, _, .tup h hs => .tup (k _ _ h) (TpAll.mono k hs)
theorem TpAll.mono {H H' : Hp} (k : TK H H') : ∀ {v : List V} {d : List PyData}, TpAll H v d → TpAll H' v d
  | _, _, .nil => .nil
  | _, _, .cons h hs => .cons (Tp.mono k h) (TpAll.mono k hs)
end
mutual
theorem Tp.dp {K : PySem.W.Frag} {H : Hp} : ∀ {v : V} {d : PyData}, Tp H v d → Dp K H v d
  | _, _, .non => .non
  | _, _, .bl b => .bl b
  | _, _, .int i => .int i
  | _, _, .str x => .str x
  | _, _, .tup h hs => .tup (SqT.of h) (TpAll.dp hs)
theorem TpAll.dp {K : PySem.W.Frag} {H : Hp} : ∀ {v : List V} {d : List PyData}, TpAll H v d → DpAll K H v d
  | _, _, .nil => .nil
  | _, _, .cons h hs => .cons (Tp.dp h) (TpAll.dp hs)
end
theorem tp_parts {H : Hp} : ∀ r : Rc, TpAll H (r.map Pt.v) (r.map Pt.d)
  | [] => .nil
  | .s z :: r => .cons (.str z) (tp_parts r)
  | .b i :: r => .cons (.int i) (tp_parts r)
theorem TpAll.map {H : Hp} {α : Type} {g : α → V} {e : α → PyData} : ∀ {l : List α}, (∀ x ∈ l, Tp H (g x) (e x)) → TpAll H (l.map g) (l.map e)
  | [], _ => .nil
  | x :: r, h => .cons (h x List.mem_cons_self) (TpAll.map fun y hy => h y (List.mem_cons_of_mem _ hy))
theorem TpAll.app {H : Hp} {a b : List V} {d e : List PyData} (h : TpAll H a d) (h2 : TpAll H b e) : TpAll H (a ++ b) (d ++ e) := by
  induction a generalizing d with
  | nil =>
    cases h
    exact h2
  | cons v r ih =>
    cases h with
    | cons h1 hr => exact .cons h1 (ih hr)
theorem TpAll.get {H : Hp} : ∀ {vs : List V} {ds : List PyData} {i : Nat} {d : PyData}, TpAll H vs ds → ds[i]? = some d → ∃ v, vs[i]? = some v ∧ Tp H v d
  | _, _, _, _, .nil, h => by simp at h
  | _, _, 0, _, .cons h _, e => by
    simp at e
    subst e
    exact ⟨_, rfl, h⟩
  | _, _, i + 1, _, .cons _ hs, e => by
    have e' : _ := e
    rw [List.getElem?_cons_succ] at e'
    obtain ⟨v, h1, h2⟩ := TpAll.get hs e'
    exact ⟨v, by rw [List.getElem?_cons_succ]; exact h1, h2⟩
theorem TpAll.len {H : Hp} : ∀ {vs : List V} {ds : List PyData}, TpAll H vs ds → vs.length = ds.length
  | _, _, .nil => rfl
  | _, _, .cons _ hs => by rw [List.length_cons, List.length_cons, TpAll.len hs]
theorem Same.tk {H H' : Hp} (s : Same H H') : TK H H' := fun b xs e => s b _ e
theorem Kp.tk {p c : Addr} {H H' : Hp} (k : Kp p c H H') (hP : Pen H p c) : TK H H' := fun b xs e => by
  obtain ⟨ns, i, j, h1, _⟩ := hP
  exact k.but b _ (ne_of e h1 (by intro z; cases z)) e
theorem tk_new {H : Hp} {q : Addr} {o : HO} (hq : H q = none) : TK H (upd H q o) := fun b xs e => by
  rw [upd_ne (ne_of_none e hq)]
  exact e
theorem tk_lst {H : Hp} {q : Addr} {ys : List V} {o : HO} (hq : H q = some (.lst ys)) : TK H (upd H q o) := fun b xs e => by
  rw [upd_ne (ne_of e hq (by intro z; cases z))]
  exact e
theorem same_new {H : Hp} {q : Addr} {o : HO} (hq : H q = none) : Same H (upd H q o) := fun b u e => by
  rw [upd_ne (ne_of_none e hq)]
  exact e
theorem Pen.same {H H' : Hp} {p c : Addr} (h : Pen H p c) (s : Same H H') : Pen H' p c := by
  obtain ⟨ns, i, j, h1, h2⟩ := h
  exact ⟨ns, i, j, s _ _ h1, s _ _ h2⟩
theorem Kp.same {H H1 H2 : Hp} {p c : Addr} (k : Kp p c H H1) (s : Same H1 H2) : Kp p c H H2 := ⟨fun b o n e => s b o (k.but b o n e), k.pen.same s⟩

/-! ### a heap without one list -/
def hide (H : Hp) (l : Addr) : Hp := fun b => if b = l then none else H b
theorem hide_ne {H : Hp} {l b : Addr} (h : b ≠ l) : hide H l b = H b := if_neg h
theorem hide_self {H : Hp} {l : Addr} : hide H l l = none := if_pos rfl
theorem Pen.hide {H : Hp} {p c l : Addr} (h : Pen H p c) (n1 : l ≠ p) (n2 : l ≠ c) : Pen (hide H l) p c := by
  obtain ⟨ns, i, j, h1, h2⟩ := h
  exact ⟨ns, i, j, by rw [hide_ne n1.symm]; exact h1, by rw [hide_ne n2.symm]; exact h2⟩
theorem Kp.hide0 {H : Hp} {p c l : Addr} (h : Pen H p c) : Kp p c (hide H l) H := by
  refine ⟨fun b o n e => ?_, h⟩
  by_cases hb : b = l
  · rw [hb, hide_self] at e
    cases e
  · rw [hide_ne hb] at e
    exact e
theorem Kp.thru {H H1 H2 : Hp} {p c l : Addr} (k1 : Kp p c H H1) (k2 : Kp p c (hide H1 l) H2) (hl : H l = none) : Kp p c H H2 :=
  ⟨fun b o n e => k2.but b o n (by rw [hide_ne (ne_of_none e hl)]; exact k1.but b o n e), k2.pen⟩
theorem Kp.unhide {H H' : Hp} {p c l b : Addr} {o : HO} (k : Kp p c (hide H l) H') (n : b ≠ p) (nl : b ≠ l) (h : H b = some o) : H' b = some o := k.but b o n (by rw [hide_ne nl]; exact h)
theorem Kp.freeH {H H' : Hp} {p c l t : Addr} {o : HO} (k : Kp p c (hide H l) H') (hl : H' l = some o) (ht : H' t = none) : H t = none := by
  have h := k.free ht
  rw [hide_ne (ne_of_none hl ht).symm] at h
  exact h

/-! ### lists of small numbers -/
def iN (ls : List Nat) : List Int := ls.map fun (i : Nat) => (i : Int)
theorem rg_eq (n : Nat) : rgV 0 (n : Int) = (iN (List.range n)).map V.int := by
  unfold rgV iN
  rw [List.map_map]
  have e : ((n : Int) - 0).toNat = n := by omega
  rw [e]
  refine List.map_congr_left fun i _ => ?_
  show V.int (0 + (i : Int)) = V.int (i : Int)
  rw [Int.zero_add]
theorem flat_ints (ns : List Int) : (ns.map V.int).all flatV = true := by
  rw [List.all_eq_true]
  intro x hx
  obtain ⟨z, _, rfl⟩ := List.mem_map.mp hx
  rfl
theorem first_hit {xs : List V} {t : V → Bool} (h : xs.any t = true) : ∃ (j : Nat) (z : V), xs[j]? = some z ∧ t z = true ∧ ∀ (m : Nat) (z' : V), m < j → xs[m]? = some z' → t z' = false := by
  induction xs with
  | nil => cases h
  | cons x r ih =>
    cases hx : t x with
    | true => exact ⟨0, x, rfl, hx, fun m _ hm => absurd hm (Nat.not_lt_zero m)⟩
    | false =>
      rw [List.any_cons, hx, Bool.false_or] at h
      obtain ⟨j, z, h1, h2, h3⟩ := ih h
      refine ⟨j + 1, z, by rw [List.getElem?_cons_succ]; exact h1, h2, fun m z' hm e => ?_⟩
      cases m with
      | zero =>
        obtain rfl : x = z' := Option.some.inj e
        exact hx
      | succ m =>
        rw [List.getElem?_cons_succ] at e
        exact h3 m z' (Nat.lt_of_succ_lt_succ hm) e
theorem erase_map {α β : Type} (g : α → β) : ∀ (l : List α) (k : Nat), (l.map g).eraseIdx k = (l.eraseIdx k).map g
  | [], _ => rfl
  | _ :: _, 0 => rfl
  | x :: r, k + 1 => by
    rw [List.map_cons, List.eraseIdx_cons_succ, List.eraseIdx_cons_succ, List.map_cons, erase_map g r k]

theorem erase_perm {α : Type} : ∀ (l : List α) (k : Nat) (h : k < l.length), (l[k] :: l.eraseIdx k).Perm l
  | x :: r, 0, _ => List.Perm.refl _
  | x :: r, k + 1, h => by
    rw [List.eraseIdx_cons_succ, List.getElem_cons_succ]
    exact (List.Perm.swap x _ _).trans ((erase_perm r k (Nat.lt_of_succ_lt_succ h)).cons x)


/-! ### a drawn recipe -/
def spFill : Sp := fun vs H Q _ => ∃ (p c l : Addr) (ls : List Nat) (own : Int), vs = [.ref p, .ref l, .int own] ∧ Pen H p c ∧ l ≠ p ∧ l ≠ c ∧ H l = some (.lst ((iN ls).map V.int)) ∧ ls.length ≤ 100 ∧
  ∀ (r : Rc) (t : Addr) (ls' : List Nat) H', Kp p c (hide H l) H' → H t = none → H' t = some (.tup (r.map Pt.v)) → H' l = some (.lst ((iN ls').map V.int)) → (bufs r ++ ls').Perm ls → lets r ≤ 10 → lowR r → r.length ≤ 5 → Q (.ref t) H'
theorem sc_fill : FnScope ["pen", "left", "own", "parts", "lap", "at"] ["pen", "left", "own"] (fnScope st_law_fill) := fnScope_by (by decide +kernel)
/-- between two turns: the parts so far at q, what is left at l -/
structure FI (H : Hp) (p c l q : Addr) (ls : List Nat) (n : Nat) (ps : Rc) (ls' : List Nat) (H' : Hp) : Prop where
  kp : Kp p c (hide H l) H'
  hq : H' q = some (.lst (ps.map Pt.v))
  hl : H' l = some (.lst ((iN ls').map V.int))
  perm : (bufs ps ++ ls').Perm ls
  lt : lets ps ≤ 2 * n
  len : ps.length ≤ n
  low : lowR ps
theorem FI.more {H : Hp} {p c l q : Addr} {ls : List Nat} {n m : Nat} {ps : Rc} {ls' : List Nat} {H' : Hp} (h : FI H p c l q ls n ps ls' H') (hm : n ≤ m) : FI H p c l q ls m ps ls' H' :=
  ⟨h.kp, h.hq, h.hl, h.perm, Nat.le_trans h.lt (Nat.mul_le_mul_left 2 hm), Nat.le_trans h.len hm, h.low⟩
theorem FI.drawn {H : Hp} {p c l q : Addr} {ls : List Nat} {n : Nat} {ps : Rc} {ls' : List Nat} {H1 H2 : Hp} (h : FI H p c l q ls n ps ls' H1) (np : q ≠ p) (nl : l ≠ p) (k : Kp p c H1 H2) : FI H p c l q ls n ps ls' H2 :=
  ⟨h.kp.trans k, k.but _ _ np h.hq, k.but _ _ nl h.hl, h.perm, h.lt, h.len, h.low⟩
theorem FI.new {H : Hp} {p c l q e : Addr} {o : HO} {ls : List Nat} {n : Nat} {ps : Rc} {ls' : List Nat} {H1 : Hp} (h : FI H p c l q ls n ps ls' H1) (he : H1 e = none) : FI H p c l q ls n ps ls' (upd H1 e o) :=
  ⟨h.kp.new he, by rw [upd_ne (ne_of_none h.hq he)]; exact h.hq, by rw [upd_ne (ne_of_none h.hl he)]; exact h.hl, h.perm, h.lt, h.len, h.low⟩
/-- a piece put behind -/
theorem FI.piece {H : Hp} {p c l q : Addr} {ls : List Nat} {n : Nat} {ps : Rc} {ls' : List Nat} {H1 : Hp} {z : Str} (hP : Pen (hide H l) p c) (hq : H q = none) (nq : q ≠ l) (h : FI H p c l q ls n ps ls' H1) (hz : Tx 2 z) :
    FI H p c l q ls (n + 1) (ps ++ [.s z]) ls' (upd H1 q (.lst (ps.map Pt.v ++ [.str z]))) := by
  have hq0 : hide H l q = none := by rw [hide_ne nq]; exact hq
  refine ⟨h.kp.put hP hq0, ?_, ?_, ?_, ?_, ?_, ?_⟩
  · rw [upd_same, List.map_append]
    rfl
  · rw [upd_ne nq.symm]
    exact h.hl
  · rw [bufs_app, bufs_one]
    show (bufs ps ++ [] ++ ls').Perm ls
    rw [List.append_nil]
    exact h.perm
  · rw [lets_app, lets_one]
    have a := h.lt
    have b : (Pt.s z).let ≤ 2 := hz.len
    omega
  · rw [List.length_append, List.length_singleton]
    have := h.len
    omega
  · exact lowR_app h.low (lowR_one hz.low)
/-- a buffer taken out of what is left, put behind -/
theorem FI.take {H : Hp} {p c l q : Addr} {ls : List Nat} {n : Nat} {ps : Rc} {ls' : List Nat} {H1 : Hp} {k : Nat} (hP : Pen (hide H l) p c) (hq : H q = none) (nq : q ≠ l) (h : FI H p c l q ls n ps ls' H1) (hk : k < ls'.length) :
    FI H p c l q ls (n + 1) (ps ++ [.b ls'[k]]) (ls'.eraseIdx k) (upd (upd H1 l (.lst (((iN ls').map V.int).eraseIdx k))) q (.lst (ps.map Pt.v ++ [.int ls'[k]]))) := by
  have hq0 : hide H l q = none := by rw [hide_ne nq]; exact hq
  refine ⟨(h.kp.put hP hide_self).put hP hq0, ?_, ?_, ?_, ?_, ?_, ?_⟩
  · rw [upd_same, List.map_append]
    rfl
  · rw [upd_ne nq.symm, upd_same]
    unfold iN
    rw [erase_map, erase_map]
  · rw [bufs_app, bufs_one]
    show (bufs ps ++ [ls'[k]] ++ ls'.eraseIdx k).Perm ls
    rw [List.append_assoc]
    exact ((erase_perm ls' k hk).append_left _).trans h.perm
  · rw [lets_app, lets_one]
    have a := h.lt
    show lets ps + 0 ≤ 2 * (n + 1)
    omega
  · rw [List.length_append, List.length_singleton]
    have := h.len
    omega
  · exact lowR_app h.low (lowR_one True.intro)
theorem menu012 : ∀ z ∈ ([0, 1, 1, 1, 1, 2] : List Int), 0 ≤ z ∧ z ≤ 2 := by decide
section
variable {P : Program} {w : World} {K : PySem.W.Frag} {mg : Str → Option Value} {base : Heap} {f : Addr} {fd : FuncData}
theorem cal_fill (F : C8.Def K mg "_law_fill" st_law_fill f fd) (b : Binds K fd ["pen", "left", "own"] []) (B : BN2 mg) (Cd : Cal P w K mg base 2 "_law_draw" spDraw []) (Co : Cal P w K mg base 3 "_law_one_of" (spOne K) [])
    (Cp : Cal P w K mg base 4 "_law_piece" spPiece []) (Cn : Cal P w K mg base 1 "_law_normal" (spNormal K) []) : Cal P w K mg base 5 "_law_fill" spFill [] := by
  refine cal0 F b .nil sc_fill (fun vs H Q E h => ?_) (fun cdv A outer s H vs Q E hr h => ?_)
  · obtain ⟨p, c, l, ls, own, rfl, _⟩ := h
    rfl
  · obtain ⟨p, c, l, ls, own, rfl, hP, nlp, nlc, hl, hln, k⟩ := h
    refine ⟨_, pss_cons (ps_set (i := 3) sc_fill.nd rfl (Or.inl rfl) (pe_lst pa_nil))
      (pss_cons (ps_for PassesOwn.never rfl (pi_range1 rfl B.range (pa_cons (pe_c Co hr (by decide) (by rfl) (pa_cons (pv 0) (pa_cons (pe_lst (pa_cons pe_int (pa_cons pe_int (pa_cons pe_int (pa_cons pe_int (pa_cons pe_int (pa_cons pe_int pa_nil))))))) pa_nil))) pa_nil)) (pg_name (i := 4) sc_fill.nd rfl (Or.inl rfl))
        (pss_cut (ps_if (pt_cmpR op_eq (pe_c Cd hr (by decide) (by rfl) (pa_cons (pv 0) (pa_cons pe_int pa_nil))) pe_int (nomark _))
            (pss_one (ps_expr (pe_bm PySem.F.plainAttrs_list PySem.F.slot_list_append PySem.F.type_list_append mt_append (pv 3) (pa_cons (pe_c Cp hr (by decide) (by rfl) (pa_cons (pv 0) (pa_cons pe_int pa_nil))) pa_nil)))) pss_nil)
          (pss_one (ps_if (pt_cmpR (op_neD hr.units) (pv 1) (pe_lst pa_nil) (nomark _))
            (pss_cut (ps_set (i := 5) sc_fill.nd rfl (Or.inl rfl) (pe_ifExp (PW.pt (pw_and (pt_cmpR op_in_seq (pv 2) (pv 1) (by with_unfolding_all rfl)) (pw_and1 (pt_cmpR op_gt (pe_c Cd hr (by decide) (by rfl) (pa_cons (pv 0) (pa_cons pe_int pa_nil))) pe_int (nomark _)))))
                (pe_bm PySem.F.plainAttrs_list PySem.F.slot_list_index PySem.F.type_list_index mt_index (pv 1) (pa_cons (pv 2) pa_nil))
                (pe_c Cd hr (by decide) (by rfl) (pa_cons (pv 0) (pa_cons (pe_callB call_len_seq (by rfl) B.len PySem.boot_len (pa_cons (pv 1) pa_nil)) pa_nil)))))
              (pss_one (ps_expr (pe_bm PySem.F.plainAttrs_list PySem.F.slot_list_append PySem.F.type_list_append mt_append (pv 3) (pa_cons (pe_bm PySem.F.plainAttrs_list PySem.F.slot_list_pop PySem.F.type_list_pop mt_popAt (pv 1) (pa_cons (pv 5) pa_nil)) pa_nil))))) pss_nil))))
      (pss_cut (ps_if (pt_cmpR op_eq (pe_c Cd hr (by decide) (by rfl) (pa_cons (pv 0) (pa_cons pe_int pa_nil))) pe_int (nomark _))
            (pss_one (ps_expr (pe_bm PySem.F.plainAttrs_list PySem.F.slot_list_append PySem.F.type_list_append mt_append (pv 3) (pa_cons (pe_c Cp hr (by decide) (by rfl) (pa_cons (pv 0) (pa_cons pe_int pa_nil))) pa_nil)))) pss_nil)
      (pss_one (ps_ret (pe_c Cn hr (by decide) (by rfl) (pa_cons (pv 3) pa_nil)))))), ?_⟩
    have hPh := hP.hide nlp nlc
    refine ⟨Nat.zero_le _, fun q hq => ?_⟩
    have nqp : q ≠ p := hP.ne hq
    have nql : q ≠ l := (ne_of_none hl hq).symm
    have I0 : FI H p c l q ls 0 [] ls (upd H q (.lst [])) := ⟨(Kp.hide0 hP).new hq, upd_same, by rw [upd_ne nql.symm]; exact hl, List.Perm.refl _, Nat.le_refl _, Nat.le_refl _, fun x hx => by cases hx⟩
    -- a piece, perhaps, in both places
    have perhaps : ∀ (n : Nat) (ps : Rc) (ls' : List Nat) (H1 : Hp) (G : Hp → Prop), n ≤ 100 → FI H p c l q ls n ps ls' H1 → (∀ ps' H2, FI H p c l q ls (n + 1) ps' ls' H2 → G H2) →
        ∀ (d : Int) (H2 : Hp), Kp p c H1 H2 → (if decide (V.int d = V.int 0) = true then
          (spPiece [.ref p, .int 2] H2 (fun x H3 => rAppend (.ref q) [x] H3 fun _ H4 => G H4) E0) else G H2) := by
      intro n ps ls' H1 G hn h kG d H2 kk
      have h2 := h.drawn nqp nlp kk
      refine ite2 (fun _ => ?_) (fun _ => ?_)
      · refine ⟨p, c, 2, rfl, h2.kp.pen, by decide, by decide, fun z H3 z0 hz k3 => ?_⟩
        have h3 := h2.drawn nqp nlp k3
        refine ⟨q, _, _, rfl, rfl, h3.hq, ?_, kG _ _ (h3.piece hPh hq nql hz)⟩
        rw [List.length_map]
        exact Nat.lt_of_le_of_lt (Nat.le_trans h.len hn) (by decide)
      · exact kG ps H2 (h2.more (Nat.le_succ _))
    refine ⟨_, rfl, (by show 6 ≤ sizeLine; decide), fun a ha => ⟨p, c, I0.kp.pen.new ha, .inl ⟨a, _, rfl, I0.kp.pen.ne ha, SqL.of upd_same, by decide, by decide, fun x H1 hx k1 => ?_⟩⟩⟩
    obtain ⟨m, hm, rfl⟩ : ∃ m : Nat, m ≤ 2 ∧ x = V.int m := by
      have hx' : x ∈ ([0, 1, 1, 1, 1, 2] : List Int).map V.int := hx
      obtain ⟨z, h1, h2⟩ := List.mem_map.mp hx'
      obtain ⟨h3, h4⟩ := menu012 z h1
      exact ⟨z.toNat, by omega, by rw [← h2, Int.toNat_of_nonneg h3]⟩
    have I1 := (I0.new (o := .lst ([0, 1, 1, 1, 1, 2].map V.int)) ha).drawn nqp nlp k1
    refine ⟨m, rfl, by omega, by omega, for_range (n := (m : Int).toNat) (fun i σ H' => (∃ v4 v5 : Option V, σ = [some (.ref p), some (.ref l), some (.int own), some (.ref q), v4, v5]) ∧ ∃ ps ls', FI H p c l q ls (2 * i) ps ls' H') ⟨⟨_, _, rfl⟩, _, _, I1⟩ ?_ ?_⟩
    · rintro i σ H2 hi ⟨⟨v4, v5, rfl⟩, ps, ls', I⟩
      refine ⟨fun σ H' => σ = [some (.ref p), some (.ref l), some (.int own), some (.ref q), some (.int (0 + (i : Int))), v5] ∧ ∃ ps, FI H p c l q ls (2 * i + 1) ps ls' H', ?_, ?_⟩
      · refine ⟨_, rfl, p, c, 3, rfl, I.kp.pen, by decide, by decide, fun d H3 d0 d1 k3 => ⟨rfl, _, rfl, ?_⟩⟩
        have I3 := I.drawn nqp nlp k3
        have z := perhaps (2 * i) ps ls' H2 (fun H' => [some (V.ref p), some (.ref l), some (.int own), some (.ref q), some (.int (0 + (i : Int))), v5] = [some (V.ref p), some (.ref l), some (.int own), some (.ref q), some (.int (0 + (i : Int))), v5] ∧ ∃ ps, FI H p c l q ls (2 * i + 1) ps ls' H') (by omega) I (fun ps' H4 h4 => ⟨rfl, ps', h4⟩) d H3 k3
        by_cases hd : decide (V.int d = V.int 0) = true
        · rw [if_pos hd] at z
          refine iteT' hd ?_
          exact ⟨_, rfl, .inl ⟨rfl, _, SqL.of I3.hq⟩, _, rfl, z⟩
        · rw [if_neg hd] at z
          exact iteF' (eq_false_of_ne_true hd) z
      · rintro σ H3 ⟨rfl, ps3, I3⟩
        refine ⟨_, rfl, Nat.zero_le _, fun e he => ?_⟩
        have I4 := I3.new (o := .lst []) he
        refine ⟨.list ((iN ls').map PyData.int), .list [], .lst (SqL.of I4.hl) (dp_ints _), .lst (SqL.of upd_same) .nil, shaped_ints _, by decide, _, rfl, ?_⟩
        rw [ints_ne_nil]
        by_cases hne : ls' = []
        · subst hne
          refine iteF ?_
          exact ⟨⟨_, _, rfl⟩, ps3, [], by rw [Nat.mul_succ]; exact I4.more (Nat.le_succ _)⟩
        · have hpos : 0 < ls'.length := List.length_pos_iff.mpr hne
          have hle : ls'.length ≤ 100 := by
            have := I4.perm.length_eq
            rw [List.length_append] at this
            omega
          have hem : (!(iN ls').isEmpty) = true := by
            cases ls' with
            | nil => exact absurd rfl hne
            | cons a r => rfl
          rw [hem]
          refine iteT ?_
          refine ⟨fun σ H' => (∃ k : Nat, k < ls'.length ∧ σ = [some (.ref p), some (.ref l), some (.int own), some (.ref q), some (.int (0 + (i : Int))), some (.int k)]) ∧ FI H p c l q ls (2 * i + 1) ps3 ls' H', ?_, ?_⟩
          · -- which one: the own one, or a drawn one
            have other : ∀ H4, FI H p c l q ls (2 * i + 1) ps3 ls' H4 → spDraw [.ref p, .int (((iN ls').map V.int).length : Nat)] H4 (fun x H' => (∃ k : Nat, k < ls'.length ∧ [some (V.ref p), some (.ref l), some (.int own), some (.ref q), some (.int (0 + (i : Int))), some x] = [some (.ref p), some (.ref l), some (.int own), some (.ref q), some (.int (0 + (i : Int))), some (.int k)]) ∧ FI H p c l q ls (2 * i + 1) ps3 ls' H') E0 := fun H4 J => by
              have en : ((iN ls').map V.int).length = ls'.length := by
                unfold iN
                rw [List.length_map, List.length_map]
              rw [en]
              refine ⟨p, c, _, rfl, J.kp.pen, by omega, log_small (by omega) (by omega), fun d H5 d0 d1 k5 => ⟨⟨d.toNat, by omega, ?_⟩, J.drawn nqp nlp k5⟩⟩
              rw [Int.toNat_of_nonneg d0]
            refine ⟨_, rfl, _, rfl, l, _, rfl, .inl (SqL.of I4.hl), rfl, flat_ints _, _, rfl, ?_⟩
            cases hin : inV (.int own) ((iN ls').map V.int) with
            | false =>
              refine iteF (iteF ?_)
              exact ⟨_, rfl, _, rfl, l, _, rfl, .inl (SqL.of I4.hl), other _ I4⟩
            | true =>
              refine iteT ?_
              refine ⟨_, rfl, p, c, 3, rfl, I4.kp.pen, by decide, by decide, fun d H5 d0 d1 k5 => ?_⟩
              have I5 := I4.drawn nqp nlp k5
              refine ⟨_, _, rfl, rfl, _, rfl, ?_⟩
              refine ite2 (fun _ => ?_) (fun _ => ?_)
              · obtain ⟨j, z, j1, j2, j3⟩ := first_hit (xs := (iN ls').map V.int) (t := fun y => eqV y (.int own)) hin
                have hj : j < ls'.length := by
                  have q := (List.getElem?_eq_some_iff.mp j1).1
                  unfold iN at q
                  rw [List.length_map, List.length_map] at q
                  exact q
                exact ⟨_, rfl, .inl ⟨rfl, _, SqL.of I5.hl⟩, _, rfl, l, _, _, j, z, rfl, rfl, SqL.of I5.hl, rfl, flat_ints _, j1, j2, j3, ⟨j, hj, rfl⟩, I5⟩
              · exact ⟨_, rfl, _, rfl, l, _, rfl, .inl (SqL.of I5.hl), other _ I5⟩
          · rintro σ H4 ⟨⟨k', hk, rfl⟩, I5⟩
            have hlen : ((iN ls').map V.int).length = ls'.length := by
              unfold iN
              rw [List.length_map, List.length_map]
            refine ⟨_, rfl, .inl ⟨rfl, _, SqL.of I5.hq⟩, _, rfl, .inl ⟨rfl, _, SqL.of I5.hl⟩, _, rfl, l, _, _, k', .int (ls'[k'] : Nat), rfl, rfl, I5.hl, by omega, by omega, ?_, ?_, ?_⟩
            · refine (ixN_seq (n := ((iN ls').map V.int).length) (i := (k' : Int)) (j := k') ?_).1
              unfold ixN
              rw [if_pos (by omega), if_pos (by omega)]
              exact congrArg some (by omega)
            · unfold iN
              rw [List.getElem?_map, List.getElem?_map, List.getElem?_eq_getElem hk]
              rfl
            · refine ⟨q, _, _, rfl, rfl, (by rw [upd_ne nql]; exact I5.hq), ?_, ⟨_, _, rfl⟩, ps3 ++ [.b ls'[k']], ls'.eraseIdx k', ?_⟩
              · rw [List.length_map]
                exact Nat.lt_of_le_of_lt (Nat.le_trans I5.len (show 2 * i + 1 ≤ 100 by omega)) (by decide)
              · rw [Nat.mul_succ]
                exact I5.take hPh hq nql hk
    · rintro σ H2 ⟨⟨v4, v5, rfl⟩, ps, ls', I⟩
      have I' := I.more (show 2 * (m : Int).toNat ≤ 4 by omega)
      refine ⟨fun σ H' => σ = [some (.ref p), some (.ref l), some (.int own), some (.ref q), v4, v5] ∧ ∃ ps, FI H p c l q ls 5 ps ls' H', ?_, ?_⟩
      · refine ⟨_, rfl, p, c, 2, rfl, I.kp.pen, by decide, by decide, fun d H3 d0 d1 k3 => ⟨rfl, _, rfl, ?_⟩⟩
        have I3 := I'.drawn nqp nlp k3
        have z := perhaps 4 ps ls' H2 (fun H' => [some (V.ref p), some (.ref l), some (.int own), some (.ref q), v4, v5] = [some (V.ref p), some (.ref l), some (.int own), some (.ref q), v4, v5] ∧ ∃ ps, FI H p c l q ls 5 ps ls' H') (by omega) I' (fun ps' H4 h4 => ⟨rfl, ps', h4⟩) d H3 k3
        by_cases hd : decide (V.int d = V.int 0) = true
        · rw [if_pos hd] at z
          refine iteT' hd ?_
          exact ⟨_, rfl, .inl ⟨rfl, _, SqL.of I3.hq⟩, _, rfl, z⟩
        · rw [if_neg hd] at z
          exact iteF' (eq_false_of_ne_true hd) z
      · rintro σ H3 ⟨rfl, ps3, I3⟩
        have hlen3 : ps3.length ≤ 5 := I3.len
        have hlet3 : lets ps3 ≤ 10 := I3.lt
        refine ⟨_, rfl, q, ps3, rfl, SqL.of I3.hq, Nat.le_trans hlen3 (by decide), Nat.le_trans hlet3 (by decide), I3.low, fun t H4 s4 t3 t4 => ?_⟩
        obtain ⟨n1, n2, n3, n4⟩ := normal_ok ps3 []
        refine k (normal ps3) t ls' H4 (I3.kp.same s4) (I3.kp.freeH I3.hl t3) t4 (s4 _ _ I3.hl) ?_ ?_ ?_ ?_
        · have e : bufs (normal ps3) = bufs ps3 := n1
          rw [e]
          exact I3.perm
        · have e : lets (normal ps3) = 0 + lets ps3 := n2
          omega
        · exact n4 (fun x hx => by cases hx) I3.low
        · have e : (normal ps3).length ≤ 0 + ps3.length := n3
          omega
end

/-! ### the recipes of an entry -/
def Rc.d (r : Rc) : PyData := .tuple (r.map Pt.d)
def fillsD (fs : List Rc) : PyData := .tuple (fs.map Rc.d)
/-- a recipe as it is drawn -/
structure ROk (r : Rc) : Prop where
  lt : lets r ≤ 10
  low : lowR r
  len : r.length ≤ 5
structure FOk (n : Nat) (fs : List Rc) : Prop where
  len : fs.length = n
  nd : (fs.flatMap bufs).Nodup
  lt : ∀ i ∈ fs.flatMap bufs, i < n
  each : ∀ r ∈ fs, ROk r
theorem tp_rc {H : Hp} {t : Addr} {r : Rc} (h : H t = some (.tup (r.map Pt.v))) : Tp H (.ref t) r.d := .tup h (tp_parts r)

/-- what a dict of recipes holds -/
abbrev Ent := Nat × Addr × Rc
def kvsE (xs : List Ent) : List (Key × V) := xs.map fun x => (Sum.inl (x.1 : Int), V.ref x.2.1)
def pickE (xs : List Ent) (n : Nat) : Addr × Rc := ((xs.find? fun x => decide (x.1 = n)).map (·.2)).getD (0, [])
theorem put_new (xs : List Ent) (n : Nat) (v : V) (h : n ∉ xs.map (·.1)) : putK (kvsE xs) (Sum.inl (n : Int)) v = kvsE xs ++ [(Sum.inl (n : Int), v)] := by
  unfold putK
  rw [if_neg]
  intro z
  rw [List.any_eq_true] at z
  obtain ⟨kv, h1, h2⟩ := z
  obtain ⟨x, h3, rfl⟩ := List.mem_map.mp h1
  have e : (Sum.inl (x.1 : Int) : Key) = Sum.inl (n : Int) := of_decide_eq_true h2
  have e2 : (x.1 : Int) = (n : Int) := Sum.inl.inj e
  have e3 : x.1 = n := by omega
  exact h (e3 ▸ List.mem_map_of_mem h3)
theorem pick_val : ∀ (xs : List Ent) (n : Nat), n ∈ xs.map (·.1) → valV (kvsE xs) (Sum.inl (n : Int)) = some (.ref (pickE xs n).1) ∧ (n, pickE xs n) ∈ xs
  | [], _, h => by cases h
  | x :: r, n, h => by
    by_cases hx : x.1 = n
    · have e1 : pickE (x :: r) n = x.2 := by
        unfold pickE
        rw [List.find?_cons_of_pos (by exact decide_eq_true hx)]
        rfl
      rw [e1]
      refine ⟨valV_pos (by show (Sum.inl (x.1 : Int) : Key) = Sum.inl (n : Int); rw [hx]), ?_⟩
      rw [← hx]
      exact List.mem_cons_self
    · have hr : n ∈ r.map (·.1) := by
        rw [List.map_cons] at h
        rcases List.mem_cons.mp h with h | h
        · exact absurd h.symm hx
        · exact h
      obtain ⟨h1, h2⟩ := pick_val r n hr
      have e1 : pickE (x :: r) n = pickE r n := by
        unfold pickE
        rw [List.find?_cons_of_neg (by intro z; exact hx (of_decide_eq_true z))]
      rw [e1]
      refine ⟨(valV_neg (p := (Sum.inl (x.1 : Int), V.ref x.2.1)) (r := kvsE r) (fun z => hx ?_)).trans h1, List.mem_cons_of_mem _ h2⟩
      have e2 : (x.1 : Int) = (n : Int) := Sum.inl.inj z
      omega
theorem pick_self : ∀ (xs : List Ent), (xs.map (·.1)).Nodup → ∀ x ∈ xs, pickE xs x.1 = x.2
  | [], _, _, h => by cases h
  | y :: r, nd, x, h => by
    rw [List.map_cons, List.nodup_cons] at nd
    rcases List.mem_cons.mp h with rfl | h
    · unfold pickE
      rw [List.find?_cons_of_pos (by exact decide_eq_true rfl)]
      rfl
    · have hne : ¬ y.1 = x.1 := fun z => nd.1 (z ▸ List.mem_map_of_mem h)
      have e1 : pickE (y :: r) x.1 = pickE r x.1 := by
        unfold pickE
        rw [List.find?_cons_of_neg (by intro z; exact hne (of_decide_eq_true z))]
      rw [e1]
      exact pick_self r nd.2 x h
theorem flat_same {α β : Type} {g h : α → List β} : ∀ {l : List α}, (∀ x ∈ l, g x = h x) → l.flatMap g = l.flatMap h
  | [], _ => rfl
  | x :: r, e => by rw [List.flatMap_cons, List.flatMap_cons, e x List.mem_cons_self, flat_same fun y hy => e y (List.mem_cons_of_mem _ hy)]
/-- behind the loop: the recipes in the buffers' order -/
theorem fok_of {n : Nat} {xs : List Ent} {os ls' : List Nat} (he : xs.map (·.1) = os) (ho : os.Perm (List.range n)) (hp : (xs.flatMap (fun x => bufs x.2.2) ++ ls').Perm (List.range n)) (hr : ∀ x ∈ xs, ROk x.2.2) :
    FOk n ((List.range n).map fun i => (pickE xs i).2) := by
  have nd : (xs.map (·.1)).Nodup := by rw [he]; exact ho.nodup_iff.mpr List.nodup_range
  have e1 : xs.flatMap (fun x => bufs x.2.2) = os.flatMap fun i => bufs (pickE xs i).2 := by
    rw [← he, List.flatMap_map]
    exact flat_same fun x hx => by rw [pick_self xs nd x hx]
  have e2 : (((List.range n).map fun i => (pickE xs i).2).flatMap bufs).Perm (xs.flatMap fun x => bufs x.2.2) := by
    rw [e1, List.flatMap_map]
    exact (ho.flatMap_right _).symm
  have nd2 : (xs.flatMap (fun x => bufs x.2.2)).Nodup := (List.nodup_append.mp (hp.nodup_iff.mpr List.nodup_range)).1
  refine ⟨by rw [List.length_map, List.length_range], e2.nodup_iff.mpr nd2, fun i hi => ?_, fun r hr' => ?_⟩
  · have h1 := hp.mem_iff.mp (List.mem_append_left ls' (e2.mem_iff.mp hi))
    exact List.mem_range.mp h1
  · obtain ⟨i, h1, rfl⟩ := List.mem_map.mp hr'
    have h2 : i ∈ xs.map (·.1) := by rw [he]; exact ho.mem_iff.mpr h1
    exact hr _ (pick_val xs i h2).2

def spFills : Sp := fun vs H Q _ => ∃ (p c : Addr) (n : Nat), vs = [.ref p, .int n] ∧ Pen H p c ∧ n ≤ 50 ∧
  ∀ (fs : List Rc) (t : Addr) H', Kp p c H H' → Tp H' (.ref t) (fillsD fs) → FOk n fs → Q (.ref t) H'
/-- a recipe, or None -/
def endD : Option Rc → PyData
  | none => .none
  | some r => r.d
/-- a recipe as it may stand at an end: drawn, or with a letter more -/
structure ROkE (r : Rc) : Prop where
  lt : lets r ≤ 12
  low : lowR r
  len : r.length ≤ 6
theorem ROk.e {r : Rc} (h : ROk r) : ROkE r := ⟨by have := h.lt; omega, h.low, by have := h.len; omega⟩
structure EOk (n : Nat) (r : Rc) : Prop where
  nd : (bufs r).Nodup
  lt : ∀ i ∈ bufs r, i < n
  ok : ROkE r
def spEnd : Sp := fun vs H Q _ => ∃ (p c : Addr) (n : Nat), vs = [.ref p, .int n] ∧ Pen H p c ∧ n ≤ 50 ∧
  ∀ (r : Option Rc) (x : V) H', Kp p c H H' → Tp H' x (endD r) → (∀ q, r = some q → EOk n q ∧ ROk q) → Q x H'
theorem sc_fills : FnScope ["pen", "buffers", "left", "order", "found", "buffer"] ["pen", "buffers"] (fnScope st_law_fills) := fnScope_by (by decide +kernel)
theorem sc_end : FnScope ["pen", "buffers"] ["pen", "buffers"] (fnScope st_law_end) := fnScope_by (by decide +kernel)
section
variable {P : Program} {w : World} {K : PySem.W.Frag} {mg : Str → Option Value} {base : Heap} {f : Addr} {fd : FuncData}
theorem cal_end (F : C8.Def K mg "_law_end" st_law_end f fd) (b : Binds K fd ["pen", "buffers"] []) (B : BN2 mg) (Cd : Cal P w K mg base 2 "_law_draw" spDraw []) (Cf : Cal P w K mg base 5 "_law_fill" spFill []) : Cal P w K mg base 6 "_law_end" spEnd [] := by
  refine cal0 F b .nil sc_end (fun vs H Q E h => ?_) (fun cdv A outer s H vs Q E hr h => ?_)
  · obtain ⟨p, c, n, rfl, _⟩ := h
    rfl
  · obtain ⟨p, c, n, rfl, hP, hn, k⟩ := h
    refine ⟨_, pss_one (ps_ret (pe_ifExp (pt_cmpR op_gt (pe_c Cd hr (by decide) (by rfl) (pa_cons (pv 0) (pa_cons pe_int pa_nil))) pe_int (nomark _))
      (pe_c Cf hr (by decide) (by rfl) (pa_cons (pv 0) (pa_cons (pe_listRg rfl (by rfl) B.list (prg_1 (by rfl) B.range (pv 1))) (pa_cons (pe_op op_sub (pv 1) pe_int) pa_nil)))) pe_non)), ?_⟩
    refine ⟨_, rfl, p, c, 5, rfl, hP, by decide, by decide, fun d H1 d0 d1 k1 => ⟨_, _, rfl, rfl, _, rfl, ?_⟩⟩
    refine ite2 (fun _ => ?_) (fun _ => ?_)
    · refine ⟨_, rfl, _, rfl, n, rfl, RgOk.of_le (by decide) (by omega) (by decide) (by omega), fun l hl => ⟨_, rfl, _, _, rfl, rfl, ?_⟩⟩
      have k2 := k1.new (o := .lst (rgV 0 (n : Int))) hl
      refine ⟨p, c, l, List.range n, _, rfl, k2.pen, k1.pen.ne hl, k1.pen.neC hl, by rw [upd_same, rg_eq], by rw [List.length_range]; omega, fun r t ls' H2 kk t0 t1 _ pm l1 l2 l3 => ?_⟩
      have k3 : Kp p c H H2 := k2.thru kk (k1.free hl)
      refine k (some r) _ H2 k3 (tp_rc t1) fun q e => ?_
      cases e
      have nd := (List.nodup_append.mp (pm.nodup_iff.mpr List.nodup_range)).1
      exact ⟨⟨nd, fun i hi => List.mem_range.mp (pm.mem_iff.mp (List.mem_append_left _ hi)), ROk.e ⟨l1, l2, l3⟩⟩, l1, l2, l3⟩
    · exact k none _ H1 k1 .non fun q e => by cases e
theorem cal_fills (F : C8.Def K mg "_law_fills" st_law_fills f fd) (b : Binds K fd ["pen", "buffers"] []) (B : BN2 mg) (Cd : Cal P w K mg base 2 "_law_draw" spDraw []) (Cf : Cal P w K mg base 5 "_law_fill" spFill []) : Cal P w K mg base 6 "_law_fills" spFills [] := by
  refine cal0 F b .nil sc_fills (fun vs H Q E h => ?_) (fun cdv A outer s H vs Q E hr h => ?_)
  · obtain ⟨p, c, n, rfl, _⟩ := h
    rfl
  · obtain ⟨p, c, n, rfl, hP, hn, k⟩ := h
    refine ⟨_, pss_cons (ps_set (i := 2) sc_fills.nd rfl (Or.inl rfl) (pe_listRg rfl (by rfl) B.list (prg_1 (by rfl) B.range (pv 1))))
      (pss_cut (ps_set (i := 3) sc_fills.nd rfl (Or.inl rfl) (pe_ifExp (pt_cmpR op_eq (pe_c Cd hr (by decide) (by rfl) (pa_cons (pv 0) (pa_cons pe_int pa_nil))) pe_int (nomark _)) (pe_revL (pv 2)) (pe_callTy call_list_of (by rfl) B.list (by decide +kernel) (pa_cons (pv 2) pa_nil))))
      (pss_cons (ps_set (i := 4) sc_fills.nd rfl (Or.inr rfl) pe_dnewK)
      (pss_cons (ps_for PassesOwn.never rfl (pi_list (pv 3)) (pg_name (i := 5) sc_fills.nd rfl (Or.inl rfl))
        (pss_one (ps_dput (hu_of hr) (pv 4) (pv 5) (pe_c Cf hr (by decide) (by rfl) (pa_cons (pv 0) (pa_cons (pv 2) (pa_cons (pv 5) pa_nil)))) rfl)))
      (pss_one (ps_ret (pe_callTy call_tuple_of (by rfl) B.tuple (by decide +kernel) (pa_cons (pe_lc (own := [("buffer", 5)]) (g := gName 5) (tt := tYes) (by rfl) sc_fills.nd (pi_range1 rfl B.range (pa_cons (pv 1) pa_nil))
        (blkOk_by (own := [("buffer", 5)]) (N := ["pen", "buffers", "left", "order", "found", "buffer"]) (sc := fnScope st_law_fills) (by decide +kernel)) (fun _ _ _ _ _ => pg_name (i := 5) sc_fills.nd rfl (Or.inl rfl)) (fun _ _ _ _ _ => pts_nil)
        (fun _ _ _ _ _ => pe_dget (hu_of hr) (pv 4) (pv 5) (fun _ _ => rfl))) pa_nil))))))), ?_⟩
    refine ⟨_, rfl, n, rfl, RgOk.of_le (by decide) (by omega) (by decide) (by omega), fun l hl => ?_⟩
    have kl : Kp p c H (upd H l (.lst (rgV 0 (n : Int)))) := (Kp.rfl' hP).new hl
    have nlp : l ≠ p := hP.ne hl
    have nlc : l ≠ c := hP.neC hl
    have hL : upd H l (.lst (rgV 0 (n : Int))) l = some (.lst ((iN (List.range n)).map V.int)) := by rw [upd_same, rg_eq]
    -- the order: the buffers, in one order
    refine ⟨fun σ H' => ∃ (o : Addr) (os : List Nat), σ = [some (.ref p), some (.int n), some (.ref l), some (.ref o), none, none] ∧ os.Perm (List.range n) ∧ Kp p c H H' ∧ H o = none ∧ o ≠ l ∧ H' o = some (.lst ((iN os).map V.int)) ∧ H' l = some (.lst ((iN (List.range n)).map V.int)), ?_, ?_⟩
    · refine ⟨_, rfl, p, c, 4, rfl, kl.pen, by decide, by decide, fun d H1 d0 d1 k1 => ⟨rfl, _, rfl, ?_⟩⟩
      have kA := kl.trans k1
      have hL1 := k1.but _ _ nlp hL
      refine ite2 (fun _ => ?_) (fun _ => ?_)
      · refine ⟨_, rfl, l, _, rfl, SqL.of hL1, fun o ho => ⟨o, (List.range n).reverse, rfl, List.reverse_perm _, kA.new ho, kA.free ho, (ne_of_none hL1 ho).symm, ?_, ?_⟩⟩
        · rw [upd_same]
          unfold iN
          rw [List.map_reverse, List.map_reverse]
        · rw [upd_ne (ne_of_none hL1 ho)]
          exact hL1
      · refine ⟨_, rfl, l, _, rfl, .inl (SqL.of hL1), fun o ho => ⟨o, List.range n, rfl, List.Perm.refl _, kA.new ho, kA.free ho, (ne_of_none hL1 ho).symm, upd_same, ?_⟩⟩
        rw [upd_ne (ne_of_none hL1 ho)]
        exact hL1
    · rintro σ H1 ⟨o, os, rfl, hos, k1, o0, nol, hO, hL1⟩
      intro D hD
      have nop : o ≠ p := hP.ne o0
      have hDl : D ≠ l := (ne_of_none hL1 hD).symm
      have hDo : D ≠ o := (ne_of_none hO hD).symm
      have D0 : H D = none := k1.free hD
      have nDp : D ≠ p := hP.ne D0
      refine ⟨_, rfl, o, rfl, ⟨_, (show SqL K (upd H1 D (.dK [])) o ((iN os).map V.int) from SqL.of (by rw [upd_ne hDo.symm]; exact hO))⟩, for_list (K := K) (a := o) (xs := (iN os).map V.int)
        (fun i σ H' => (∃ v : Option V, σ = [some (.ref p), some (.int n), some (.ref l), some (.ref o), some (.ref D), v]) ∧ Kp p c H H' ∧ H' o = some (.lst ((iN os).map V.int)) ∧ ∃ (xs : List Ent) (ls' : List Nat), xs.map (·.1) = os.take i ∧ H' D = some (.dK (kvsE xs)) ∧ H' l = some (.lst ((iN ls').map V.int)) ∧
          (xs.flatMap (fun x => bufs x.2.2) ++ ls').Perm (List.range n) ∧ ∀ x ∈ xs, H' x.2.1 = some (.tup (x.2.2.map Pt.v)) ∧ ROk x.2.2)
        ⟨⟨none, rfl⟩, k1.new hD, by rw [upd_ne hDo.symm]; exact hO, [], List.range n, rfl, upd_same, by rw [upd_ne hDl.symm]; exact hL1, List.Perm.refl _, fun x hx => by cases hx⟩ (fun i σ H' _ h => SqL.of h.2.2.1) ?_ ?_⟩
      · rintro i y σ H2 hi ⟨⟨v, rfl⟩, k2, hO2, xs, ls', ex, hD2, hL2, hp, hx⟩
        obtain ⟨z, hz, rfl⟩ : ∃ z, os[i]? = some z ∧ y = V.int (z : Nat) := by
          unfold iN at hi
          rw [List.map_map, List.getElem?_map] at hi
          cases e : os[i]? with
          | none =>
            rw [e] at hi
            cases hi
          | some u =>
            rw [e] at hi
            exact ⟨u, rfl, (Option.some.inj hi).symm⟩
        have hln : ls'.length ≤ 100 := by
          have := hp.length_eq
          rw [List.length_append, List.length_range] at this
          omega
        refine ⟨_, rfl, _, rfl, _, rfl, p, c, l, ls', _, rfl, k2.pen, nlp, nlc, hL2, hln, fun r t ls2 H3 k3 t0 t1 t2 pm l1 l2 l3 => ?_⟩
        have hD3 : H3 D = some (.dK (kvsE xs)) := k3.unhide nDp hDl hD2
        have hO3 := k3.unhide nop nol hO2
        have zn : z ∉ xs.map (·.1) := by
          rw [ex]
          intro zm
          have nd : os.Nodup := hos.nodup_iff.mpr List.nodup_range
          obtain ⟨j, hj⟩ := List.mem_iff_getElem?.mp zm
          have hji : j < i := by
            have := (List.getElem?_eq_some_iff.mp hj).1
            rw [List.length_take] at this
            omega
          rw [List.getElem?_take_of_lt hji] at hj
          have := nd_ix nd hj hz
          omega
        have hle : (kvsE xs).length ≤ 50 := by
          unfold kvsE
          rw [List.length_map]
          have e1 := congrArg List.length ex
          have e2 := hos.length_eq
          rw [List.length_map, List.length_take] at e1
          rw [List.length_range] at e2
          omega
        have putD : DPut H3 D (.int (z : Nat)) (.ref t) (upd H3 D (.dK (kvsE xs ++ [(Sum.inl (z : Int), .ref t)]))) := by
          have q := DPut.k (k := Sum.inl (z : Int)) (v := V.ref t) hD3 (Nat.lt_of_le_of_lt hle (by decide))
          rw [put_new xs z _ zn] at q
          exact q
        have hDt : D ≠ t := by
          have e : H2 D = some (.dK (kvsE xs)) := hD2
          exact ne_of_none e t0
        refine ⟨_, rfl, _, rfl, D, _, rfl, putD, ⟨_, rfl⟩, ?_, ?_, xs ++ [(z, t, r)], ls2, ?_, ?_, ?_, ?_, ?_⟩
        · exact (k2.thru k3 hl).put hP D0
        · rw [upd_ne hDo.symm]
          exact hO3
        · rw [List.map_append, ex, List.take_add_one, hz]
          rfl
        · rw [upd_same]
          unfold kvsE
          rw [List.map_append]
          rfl
        · rw [upd_ne hDl.symm]
          exact t2
        · rw [List.flatMap_append, List.flatMap_cons, List.flatMap_nil, List.append_nil, List.append_assoc]
          exact (pm.append_left _).trans hp
        · intro x hm
          rcases List.mem_append.mp hm with hm | hm
          · obtain ⟨h1, h2⟩ := hx x hm
            refine ⟨?_, h2⟩
            rw [upd_ne (ne_of h1 hD2 (by intro q; cases q))]
            exact k3.unhide (by
              obtain ⟨ns, i', j', g1, _⟩ := k2.pen
              exact ne_of h1 g1 (by intro q; cases q)) (ne_of h1 hL2 (by intro q; cases q)) h1
          · obtain rfl := List.mem_singleton.mp hm
            refine ⟨?_, l1, l2, l3⟩
            rw [upd_ne hDt.symm]
            exact t1
      · rintro σ H2 ⟨⟨v, rfl⟩, k2, hO2, xs, ls', ex, hD2, hL2, hp, hx⟩
        have eos : ((iN os).map V.int).length = os.length := by
          unfold iN
          rw [List.length_map, List.length_map]
        rw [eos, List.take_length] at ex
        have fok := fok_of ex hos hp fun x hm => (hx x hm).2
        refine ⟨_, rfl, n, rfl, by omega, by omega, fun E hE => ?_⟩
        refine lc_range (lo := 0) (n := (n : Int).toNat) (fun i H' => Same H2 H' ∧ H' E = some (.lst ((List.range i).map fun j => V.ref (pickE xs j).1))) ⟨same_new hE, upd_same⟩ ?_ ?_
        · rintro i H3 hi ⟨s3, hE3⟩
          have him : i ∈ xs.map (·.1) := by
            rw [ex]
            exact hos.mem_iff.mpr (List.mem_range.mpr (by omega))
          refine ⟨rfl, ?_⟩
          refine ⟨_, rfl, _, rfl, D, V.ref (pickE xs i).1, rfl, ?_, ?_⟩
          · have q := DGet.k (k := Sum.inl (i : Int)) (s3 _ _ hD2)
            rw [(pick_val xs i him).1] at q
            have e : V.int (0 + (i : Int)) = kV (Sum.inl (i : Int)) := by
              rw [Int.zero_add]
              rfl
            rw [e]
            exact q
          · refine ⟨_, hE3, ?_, ?_, ?_⟩
            · rw [List.length_map, List.length_range]
              exact Nat.lt_of_lt_of_le (show i < 100 by omega) (by decide)
            · intro b' o' e'
              rw [upd_ne (ne_of_none e' hE)]
              exact s3 _ _ e'
            · rw [upd_same, List.range_succ, List.map_append]
              rfl
        · rintro H3 ⟨s3, hE3⟩
          refine ⟨E, _, rfl, .inl ⟨SqL.of hE3, fun t ht => ?_⟩⟩
          refine k _ t _ ((k2.same s3).new ht) (.tup upd_same ?_) fok
          rw [Int.toNat_natCast, List.map_map]
          refine TpAll.map fun i hi => ?_
          have him : i ∈ xs.map (·.1) := by
            rw [ex]
            exact hos.mem_iff.mpr hi
          have h1 := (hx _ (pick_val xs i him).2).1
          exact tp_rc (by rw [upd_ne (ne_of_none (s3 _ _ h1) ht)]; exact s3 _ _ h1)
end

/-! ### lists of data that are being made -/
/-- a list of data that is being made -/
def LAt (H : Hp) (R : Addr) (ds : List PyData) : Prop := ∃ vs, H R = some (.lst vs) ∧ TpAll H vs ds
theorem LAt.kp {p c R : Addr} {H1 H2 : Hp} {ds : List PyData} (h : LAt H1 R ds) (n : R ≠ p) (hP : Pen H1 p c) (k : Kp p c H1 H2) : LAt H2 R ds := by
  obtain ⟨vs, h1, h2⟩ := h
  exact ⟨vs, k.but _ _ n h1, h2.mono (k.tk hP)⟩
theorem LAt.same {R : Addr} {H1 H2 : Hp} {ds : List PyData} (h : LAt H1 R ds) (s : Same H1 H2) : LAt H2 R ds := by
  obtain ⟨vs, h1, h2⟩ := h
  exact ⟨vs, s _ _ h1, h2.mono (Same.tk s)⟩
theorem LAt.put {R q : Addr} {H1 : Hp} {ys : List V} {o : HO} {ds : List PyData} (h : LAt H1 R ds) (hq : H1 q = some (.lst ys)) (n : R ≠ q) : LAt (upd H1 q o) R ds := by
  obtain ⟨vs, h1, h2⟩ := h
  exact ⟨vs, by rw [upd_ne n]; exact h1, h2.mono (tk_lst hq)⟩
theorem LAt.push {R : Addr} {H1 : Hp} {vs : List V} {x : V} {d : PyData} {ds : List PyData} (hv : H1 R = some (.lst vs)) (ha : TpAll H1 vs ds) (hx : Tp H1 x d) : LAt (upd H1 R (.lst (vs ++ [x]))) R (ds ++ [d]) :=
  ⟨vs ++ [x], upd_same, (ha.mono (tk_lst hv)).app (.cons (hx.mono (tk_lst hv)) .nil)⟩

/-! ### writers -/
structure Wr where
  begins : List Str
  rules : List (List (Option (Nat × List Rc)))
  ends : List (Option Rc)
def entD : Option (Nat × List Rc) → PyData
  | none => .none
  | some (t, fs) => .tuple [.int t, fillsD fs]
def rowD (row : List (Option (Nat × List Rc))) : PyData := .tuple (row.map entD)
def Wr.d (W : Wr) : PyData := .tuple [.tuple (W.begins.map .str), .tuple (W.rules.map rowD), .tuple (W.ends.map endD)]
/-- an entry of a writer with S states and B buffers -/
def EntOk (S B : Nat) (e : Option (Nat × List Rc)) : Prop := ∀ t fs, e = some (t, fs) → t < S ∧ FOk B fs
structure WOk (k S B : Nat) (W : Wr) : Prop where
  b1 : W.begins.length = B
  b2 : ∀ z ∈ W.begins, Tx 2 z
  r1 : W.rules.length = S
  r2 : ∀ row ∈ W.rules, row.length = k ∧ ∀ e ∈ row, EntOk S B e
  e1 : W.ends.length = S
  e2 : ∀ e ∈ W.ends, ∀ q, e = some q → EOk B q
/-- the ends are as they were drawn -/
def Tight (W : Wr) : Prop := ∀ e ∈ W.ends, ∀ q, e = some q → ROk q
def spWriterT : Sp := fun vs H Q _ => ∃ (p c : Addr) (k sm bm : Nat), vs = [.ref p, .int k, .int sm, .int bm] ∧ Pen H p c ∧ k ≤ 40 ∧ 0 < sm ∧ sm ≤ 40 ∧ 0 < bm ∧ bm ≤ 40 ∧
  ∀ (W : Wr) (S B : Nat) (t : Addr) H', 1 ≤ S → S ≤ sm → 1 ≤ B → B ≤ bm → WOk k S B W → Tight W → Kp p c H H' → Tp H' (.ref t) W.d → Q (.ref t) H'
def spWriter : Sp := fun vs H Q _ => ∃ (p c : Addr) (k sm bm : Nat), vs = [.ref p, .int k, .int sm, .int bm] ∧ Pen H p c ∧ k ≤ 40 ∧ 0 < sm ∧ sm ≤ 40 ∧ 0 < bm ∧ bm ≤ 40 ∧
  ∀ (W : Wr) (S B : Nat) (t : Addr) H', 1 ≤ S → S ≤ sm → 1 ≤ B → B ≤ bm → WOk k S B W → Kp p c H H' → Tp H' (.ref t) W.d → Q (.ref t) H'
def nWriter : List Str := ["pen", "count", "states", "buffers", "begins", "rules", "state", "row", "kind", "target", "fills", "ends", "lap"]
theorem sc_writer : FnScope nWriter ["pen", "count", "states", "buffers"] (fnScope st_law_writer) := fnScope_by (by decide +kernel)
section
variable {P : Program} {w : World} {K : PySem.W.Frag} {mg : Str → Option Value} {base : Heap} {f : Addr} {fd : FuncData}
theorem cal_writerT (F : C8.Def K mg "_law_writer" st_law_writer f fd) (b : Binds K fd ["pen", "count", "states", "buffers"] []) (B : BN2 mg) (Cd : Cal P w K mg base 2 "_law_draw" spDraw []) (Cp : Cal P w K mg base 4 "_law_piece" spPiece [])
    (Cf : Cal P w K mg base 6 "_law_fills" spFills []) (Ce : Cal P w K mg base 6 "_law_end" spEnd []) : Cal P w K mg base 7 "_law_writer" spWriterT [] := by
  refine cal0 F b .nil sc_writer (fun vs H Q E h => ?_) (fun cdv A outer s H vs Q E hr h => ?_)
  · obtain ⟨p, c, k, sm, bm, rfl, _⟩ := h
    rfl
  · obtain ⟨p, c, kk, sm, bm, rfl, hP, hk, s0, s1, b0, b1, k⟩ := h
    refine ⟨_, pss_cons (ps_asg (pe_tup (pa_cons (pe_op op_add pe_int (pe_c Cd hr (by decide) (by rfl) (pa_cons (pv 0) (pa_cons (pv 2) pa_nil)))) (pa_cons (pe_op op_add pe_int (pe_c Cd hr (by decide) (by rfl) (pa_cons (pv 0) (pa_cons (pv 3) pa_nil)))) pa_nil)))
        (pg_tup rfl (pgs_cons (pg_name (i := 2) sc_writer.nd rfl (Or.inl rfl)) (pgs_cons (pg_name (i := 3) sc_writer.nd rfl (Or.inr rfl)) pgs_nil))))
      (pss_cons (ps_set (i := 4) sc_writer.nd rfl (Or.inl rfl) (pe_callTy call_tuple_of (by rfl) B.tuple (by decide +kernel) (pa_cons (pe_lc (own := [("lap", 12)]) (g := gName 12) (tt := tYes) (by rfl) sc_writer.nd (pi_range1 rfl B.range (pa_cons (pv 3) pa_nil))
          (blkOk_by (own := [("lap", 12)]) (N := nWriter) (sc := fnScope st_law_writer) (by decide +kernel)) (fun _ _ _ _ _ => pg_name (i := 12) sc_writer.nd rfl (Or.inl rfl)) (fun _ _ _ _ _ => pts_nil)
          (fun _ _ _ _ _ => pe_ifExp (pt_cmpR op_eq (pe_c Cd hr (by decide) (by rfl) (pa_cons (pv 0) (pa_cons pe_int pa_nil))) pe_int (nomark _)) (pe_c Cp hr (by decide) (by rfl) (pa_cons (pv 0) (pa_cons pe_int pa_nil))) pe_str)) pa_nil)))
      (pss_cons (ps_set (i := 5) sc_writer.nd rfl (Or.inl rfl) (pe_lst pa_nil))
      (pss_cons (ps_for PassesOwn.never rfl (pi_range1 rfl B.range (pa_cons (pv 2) pa_nil)) (pg_name (i := 6) sc_writer.nd rfl (Or.inl rfl))
        (pss_cons (ps_set (i := 7) sc_writer.nd rfl (Or.inl rfl) (pe_lst pa_nil))
        (pss_cons (ps_for PassesOwn.never rfl (pi_range1 rfl B.range (pa_cons (pv 1) pa_nil)) (pg_name (i := 8) sc_writer.nd rfl (Or.inl rfl))
          (pss_cons (ps_par (i := 9) (j := 10) rfl sc_writer.nd rfl rfl (by decide) rfl rfl (pa_cons (pe_c Cd hr (by decide) (by rfl) (pa_cons (pv 0) (pa_cons (pv 2) pa_nil))) (pa_cons (pe_c Cf hr (by decide) (by rfl) (pa_cons (pv 0) (pa_cons (pv 3) pa_nil))) pa_nil)) (by rfl))
          (pss_one (ps_expr (pe_bm PySem.F.plainAttrs_list PySem.F.slot_list_append PySem.F.type_list_append mt_append (pv 7)
            (pa_cons (pe_ifExp (pt_cmpR op_gt (pe_c Cd hr (by decide) (by rfl) (pa_cons (pv 0) (pa_cons pe_int pa_nil))) pe_int (nomark _)) (pe_tup (pa_cons (pv 9) (pa_cons (pv 10) pa_nil))) pe_non) pa_nil))))))
        (pss_one (ps_expr (pe_bm PySem.F.plainAttrs_list PySem.F.slot_list_append PySem.F.type_list_append mt_append (pv 5) (pa_cons (pe_callTy call_tuple_of (by rfl) B.tuple (by decide +kernel) (pa_cons (pv 7) pa_nil)) pa_nil)))))))
      (pss_cons (ps_setLc (i := 11) (own := [("state", 6)]) (g := gName 6) (tt := tYes) (by rfl) sc_writer.nd rfl rfl (sw_true rfl rfl rfl (by decide +kernel)) (pi_range1 rfl B.range (pa_cons (pv 2) pa_nil))
          (blkOk_by (own := [("state", 6)]) (N := nWriter) (sc := fnScope st_law_writer) (by decide +kernel)) (fun _ _ _ _ _ => pg_name (i := 6) sc_writer.nd rfl (Or.inl rfl)) (fun _ _ _ _ _ => pts_nil)
          (fun _ _ _ _ _ => pe_c Ce hr (by decide) (by rfl) (pa_cons (pv 0) (pa_cons (pv 3) pa_nil))))
      (pss_one (ps_ret (pe_tup (pa_cons (pv 4) (pa_cons (pe_callTy call_tuple_of (by rfl) B.tuple (by decide +kernel) (pa_cons (pv 5) pa_nil)) (pa_cons (pe_callTy call_tuple_of (by rfl) B.tuple (by decide +kernel) (pa_cons (pv 11) pa_nil)) pa_nil)))))))))), ?_⟩
    refine ⟨_, rfl, _, rfl, p, c, sm, rfl, hP, by omega, log_small (by omega) (by omega), fun d H1 d0 d1 k1 => ⟨_, _, rfl, rfl, _, rfl, _, rfl, p, c, bm, rfl, k1.pen, by omega, log_small (by omega) (by omega), fun g H2 g0 g1 k2 => ⟨_, _, rfl, rfl, ?_⟩⟩⟩
    obtain ⟨S, hS⟩ : ∃ S : Nat, 1 + d = (S : Int) := ⟨(1 + d).toNat, by omega⟩
    obtain ⟨Bf, hB⟩ : ∃ Bf : Nat, 1 + g = (Bf : Int) := ⟨(1 + g).toNat, by omega⟩
    have kA := k1.trans k2
    refine ⟨(by show 2 ≤ sizeLine; decide), fun t0 ht0 => ⟨t0, _, rfl, SqT.of upd_same, rfl, .int (S : Int), [.int (Bf : Int)], (by show [V.int (1 + d), V.int (1 + g)] = [V.int (S : Int), V.int (Bf : Int)]; rw [hS, hB]), .int (Bf : Int), [], rfl, rfl, ?_⟩⟩
    have kB := kA.new (o := .tup [.int (1 + d), .int (1 + g)]) ht0
    clear ht0
    generalize upd H2 t0 (.tup [.int (1 + d), .int (1 + g)]) = H3 at kB ⊢
    -- the begins
    refine ⟨_, rfl, Bf, rfl, by omega, by omega, fun D hD => ?_⟩
    refine lc_range (lo := 0) (n := (Bf : Int).toNat) (fun i H' => Kp p c H H' ∧ H D = none ∧ ∃ zs : List Str, H' D = some (.lst (zs.map V.str)) ∧ zs.length = i ∧ ∀ z ∈ zs, Tx 2 z) ⟨kB.new hD, kB.free hD, [], upd_same, rfl, fun z hz => by cases hz⟩ ?_ ?_
    · rintro i H4 hi ⟨k4, D0, zs, hD4, hl, hz⟩
      refine ⟨rfl, ?_⟩
      have nDp := hP.ne D0
      have done : ∀ (z : Str) (H5 : Hp), Tx 2 z → Kp p c H4 H5 → ∃ acc, H5 D = some (.lst acc) ∧ acc.length < sizeLine ∧ Kp p c H (upd H5 D (.lst (acc ++ [.str z]))) ∧ H D = none ∧ ∃ zs : List Str, upd H5 D (.lst (acc ++ [.str z])) D = some (.lst (zs.map V.str)) ∧ zs.length = i + 1 ∧ ∀ z ∈ zs, Tx 2 z := by
        intro z H5 hz5 k5
        refine ⟨_, k5.but _ _ nDp hD4, ?_, (k4.trans k5).put hP D0, D0, zs ++ [z], ?_, ?_, ?_⟩
        · rw [List.length_map]
          exact Nat.lt_of_lt_of_le (show zs.length < 1000 by omega) (by decide)
        · rw [upd_same, List.map_append]
          rfl
        · rw [List.length_append, hl]
          rfl
        · intro y hy
          rcases List.mem_append.mp hy with hy | hy
          · exact hz y hy
          · obtain rfl := List.mem_singleton.mp hy
            exact hz5
      refine ⟨_, rfl, p, c, 4, rfl, k4.pen, by decide, by decide, fun d' H5 d0' d1' k5 => ⟨rfl, _, rfl, ?_⟩⟩
      refine ite2 (fun _ => ?_) (fun _ => ?_)
      · exact ⟨_, rfl, p, c, 2, rfl, k5.pen, by decide, by decide, fun z H6 _ hz6 k6 => done z H6 hz6 (k5.trans k6)⟩
      · exact done "" H5 ⟨by decide, fun c hc => by cases hc⟩ k5
    rintro H4 ⟨k4, D0, zs, hD4, hzl, hz⟩
    refine ⟨D, _, rfl, .inl ⟨SqL.of hD4, fun tb htb => ?_⟩⟩
    have tpb : Tp (upd H4 tb (.tup (zs.map V.str))) (.ref tb) (.tuple (zs.map .str)) := .tup upd_same (TpAll.map fun z _ => .str z)
    have k5 := k4.new (o := .tup (zs.map V.str)) htb
    clear htb hD4
    generalize upd H4 tb (.tup (zs.map V.str)) = H5 at tpb k5 ⊢
    refine ⟨Nat.zero_le _, fun R hR => ?_⟩
    have R0 : H R = none := k5.free hR
    have nRp := hP.ne R0
    -- the rows
    refine ⟨_, rfl, S, rfl, by omega, by omega, for_range (n := (S : Int).toNat) (fun i σ H' => (∃ v6 v7 v8 v9 v10 : Option V, σ = [some (.ref p), some (.int kk), some (.int S), some (.int Bf), some (.ref tb), some (.ref R), v6, v7, v8, v9, v10, none, none]) ∧
      Kp p c H H' ∧ Tp H' (.ref tb) (.tuple (zs.map .str)) ∧ ∃ rows : List (List (Option (Nat × List Rc))), LAt H' R (rows.map rowD) ∧ rows.length = i ∧ ∀ row ∈ rows, row.length = kk ∧ ∀ e ∈ row, EntOk S Bf e)
      ⟨⟨_, _, _, _, _, rfl⟩, k5.new hR, tpb.mono (tk_new hR), [], ⟨[], upd_same, .nil⟩, rfl, fun row hrow => by cases hrow⟩ ?_ ?_⟩
    · rintro i σ H6 hi ⟨⟨v6, v7, v8, v9, v10, rfl⟩, k6, tb6, rows, hR6, hrl, hrow⟩
      refine ⟨Nat.zero_le _, fun w' hw => ?_⟩
      have w0 : H w' = none := k6.free hw
      have nwp := hP.ne w0
      have nRw : R ≠ w' := by
        obtain ⟨vs, h1, _⟩ := hR6
        exact ne_of_none h1 hw
      refine ⟨_, rfl, kk, rfl, by omega, by omega, for_range (n := (kk : Int).toNat) (fun j σ H' => (∃ v8 v9 v10 : Option V, σ = [some (.ref p), some (.int kk), some (.int S), some (.int Bf), some (.ref tb), some (.ref R), some (.int (0 + (i : Int))), some (.ref w'), v8, v9, v10, none, none]) ∧
        Kp p c H H' ∧ Tp H' (.ref tb) (.tuple (zs.map .str)) ∧ LAt H' R (rows.map rowD) ∧ ∃ es : List (Option (Nat × List Rc)), LAt H' w' (es.map entD) ∧ es.length = j ∧ ∀ e ∈ es, EntOk S Bf e)
        ⟨⟨_, _, _, rfl⟩, k6.new hw, tb6.mono (tk_new hw), hR6.same (same_new hw), [], ⟨[], upd_same, .nil⟩, rfl, fun e he => by cases he⟩ ?_ ?_⟩
      · rintro j σ H7 hj ⟨⟨v8, v9, v10, rfl⟩, k7, tb7, hR7, es, hw7, hel, hes⟩
        refine ⟨_, rfl, _, rfl, p, c, S, rfl, k7.pen, by omega, log_small (by omega) (by omega), fun tg H8 t0 t1 k8 => ?_⟩
        refine ⟨_, rfl, _, rfl, p, c, Bf, rfl, k8.pen, by omega, fun fs ft H9 k9 tf hf => ⟨_, _, rfl, ?_⟩⟩
        have k10 := k7.trans (k8.trans k9)
        have k79 := k8.trans k9
        have tb9 := tb7.mono (k79.tk k7.pen)
        have hR9 := hR7.kp nRp k7.pen k79
        obtain ⟨vs, hv9, ha9⟩ := hw7.kp nwp k7.pen k79
        refine ⟨_, rfl, .inl ⟨rfl, _, SqL.of hv9⟩, _, rfl, p, c, 6, rfl, k9.pen, by decide, by decide, fun d6 H10 _ _ k11 => ⟨_, _, rfl, rfl, _, rfl, ?_⟩⟩
        have tb10 := tb9.mono (k11.tk k9.pen)
        have hR10 := hR9.kp nRp k9.pen k11
        have hv10 := k11.but _ _ nwp hv9
        have ha10 := ha9.mono (k11.tk k9.pen)
        have tf10 := tf.mono (k11.tk k9.pen)
        have k12 := k10.trans k11
        have hlen : vs.length < sizeLine := by
          rw [ha10.len, List.length_map]
          exact Nat.lt_of_lt_of_le (show es.length < 1000 by omega) (by decide)
        refine ite2 (fun _ => ?_) (fun _ => ?_)
        · refine ⟨_, rfl, _, rfl, (by show 2 ≤ sizeLine; decide), fun et het => ?_⟩
          have he10 : upd H10 et (.tup [.int tg, .ref ft]) w' = some (.lst vs) := by
            rw [upd_ne (ne_of_none hv10 het)]
            exact hv10
          refine ⟨w', vs, _, rfl, rfl, he10, hlen, ⟨_, _, _, rfl⟩, (k12.new het).put hP w0, (tb10.mono (tk_new het)).mono (tk_lst he10), (hR10.same (same_new het)).put he10 nRw, es ++ [some (tg.toNat, fs)], ?_, ?_, ?_⟩
          · rw [List.map_append]
            refine LAt.push he10 (ha10.mono (tk_new het)) (.tup upd_same (.cons ?_ (.cons (tf10.mono (tk_new het)) .nil)))
            rw [Int.toNat_of_nonneg t0]
            exact .int tg
          · rw [List.length_append, hel]
            rfl
          · intro e hm
            rcases List.mem_append.mp hm with hm | hm
            · exact hes e hm
            · obtain rfl := List.mem_singleton.mp hm
              intro t' fs' he
              cases he
              exact ⟨by omega, hf⟩
        · refine ⟨w', vs, _, rfl, rfl, hv10, hlen, ⟨_, _, _, rfl⟩, k12.put hP w0, tb10.mono (tk_lst hv10), hR10.put hv10 nRw, es ++ [none], ?_, ?_, ?_⟩
          · rw [List.map_append]
            exact LAt.push hv10 ha10 .non
          · rw [List.length_append, hel]
            rfl
          · intro e hm
            rcases List.mem_append.mp hm with hm | hm
            · exact hes e hm
            · obtain rfl := List.mem_singleton.mp hm
              intro t' fs' he
              cases he
      · rintro σ H7 ⟨⟨v8, v9, v10, rfl⟩, k7, tb7, hR7, es, hw7, hel, hes⟩
        obtain ⟨vs, hv7, ha7⟩ := hw7
        refine ⟨_, rfl, .inl ⟨rfl, _, SqL.of (show H7 R = _ from hR7.choose_spec.1)⟩, _, rfl, w', vs, rfl, .inl ⟨SqL.of hv7, fun rt hrt => ?_⟩⟩
        obtain ⟨us, hu7, hb7⟩ := hR7.same (same_new (o := .tup vs) hrt)
        refine ⟨R, us, _, rfl, rfl, hu7, ?_, ⟨_, _, _, _, _, rfl⟩, (k7.new hrt).put hP R0, (tb7.mono (tk_new hrt)).mono (tk_lst hu7), rows ++ [es], ?_, ?_, ?_⟩
        · rw [hb7.len, List.length_map]
          exact Nat.lt_of_lt_of_le (show rows.length < 1000 by omega) (by decide)
        · rw [List.map_append]
          exact LAt.push hu7 hb7 (.tup upd_same (ha7.mono (tk_new hrt)))
        · rw [List.length_append, hrl]
          rfl
        · intro row hm
          rcases List.mem_append.mp hm with hm | hm
          · exact hrow row hm
          · obtain rfl := List.mem_singleton.mp hm
            exact ⟨by omega, hes⟩
    rintro σ H6 ⟨⟨v6, v7, v8, v9, v10, rfl⟩, k6, tb6, rows, hR6, hrl, hrow⟩
    -- the ends
    refine ⟨_, rfl, S, rfl, by omega, by omega, fun D2 hD2 => ?_⟩
    have nRD : R ≠ D2 := by
      obtain ⟨vs, h1, _⟩ := hR6
      exact ne_of_none h1 hD2
    refine lc_range (lo := 0) (n := (S : Int).toNat) (fun i H' => Kp p c H H' ∧ H D2 = none ∧ Tp H' (.ref tb) (.tuple (zs.map .str)) ∧ LAt H' R (rows.map rowD) ∧ ∃ es : List (Option Rc), LAt H' D2 (es.map endD) ∧ es.length = i ∧ ∀ e ∈ es, ∀ q, e = some q → EOk Bf q ∧ ROk q)
      ⟨k6.new hD2, k6.free hD2, tb6.mono (tk_new hD2), hR6.same (same_new hD2), [], ⟨[], upd_same, .nil⟩, rfl, fun e he => by cases he⟩ ?_ ?_
    · rintro i H7 hi ⟨k7, D20, tb7, hR7, es, hw7, hel, hes⟩
      refine ⟨rfl, ?_⟩
      have nD2p := hP.ne D20
      refine ⟨_, rfl, _, rfl, p, c, Bf, rfl, k7.pen, by omega, fun r x H8 k8 tx hx => ?_⟩
      obtain ⟨vs, hv8, ha8⟩ := hw7.kp nD2p k7.pen k8
      refine ⟨vs, hv8, ?_, (k7.trans k8).put hP D20, D20, (tb7.mono (k8.tk k7.pen)).mono (tk_lst hv8), (hR7.kp nRp k7.pen k8).put hv8 nRD, es ++ [r], ?_, ?_, ?_⟩
      · rw [ha8.len, List.length_map]
        exact Nat.lt_of_lt_of_le (show es.length < 1000 by omega) (by decide)
      · rw [List.map_append]
        exact LAt.push hv8 ha8 tx
      · rw [List.length_append, hel]
        rfl
      · intro e hm
        rcases List.mem_append.mp hm with hm | hm
        · exact hes e hm
        · obtain rfl := List.mem_singleton.mp hm
          exact hx
    · rintro H7 ⟨k7, D20, tb7, hR7, es, hw7, hel, hes⟩
      obtain ⟨us, hu7, hb7⟩ := hR7
      obtain ⟨vs, hv7, ha7⟩ := hw7
      refine ⟨_, rfl, _, rfl, R, us, rfl, .inl ⟨SqL.of hu7, fun ra hra => ?_⟩⟩
      refine ⟨_, rfl, D2, vs, rfl, .inl ⟨SqL.of (by rw [upd_ne (ne_of_none hv7 hra)]; exact hv7), fun ea hea => ?_⟩⟩
      refine ⟨(by show 3 ≤ sizeLine; decide), fun t ht => ?_⟩
      have s1' : TK H7 (upd (upd (upd H7 ra (.tup us)) ea (.tup vs)) t (.tup [.ref tb, .ref ra, .ref ea])) := ((tk_new hra).trans (tk_new hea)).trans (tk_new ht)
      refine k ⟨zs, rows, es⟩ S Bf t _ (by omega) (by omega) (by omega) (by omega) ⟨by show zs.length = Bf; omega, hz, by show rows.length = S; omega, hrow, by show es.length = S; omega, fun e he q hq => (hes e he q hq).1⟩ (fun e he q hq => (hes e he q hq).2) (((k7.new hra).new hea).new ht) (.tup upd_same (.cons (tb7.mono s1') (.cons (.tup ?_ (hb7.mono s1')) (.cons (.tup ?_ (ha7.mono s1')) .nil))))
      · exact (tk_new ht) _ _ ((tk_new hea) _ _ upd_same)
      · exact (tk_new ht) _ _ upd_same
theorem cal_writer (F : C8.Def K mg "_law_writer" st_law_writer f fd) (b : Binds K fd ["pen", "count", "states", "buffers"] []) (B : BN2 mg) (Cd : Cal P w K mg base 2 "_law_draw" spDraw []) (Cp : Cal P w K mg base 4 "_law_piece" spPiece [])
    (Cf : Cal P w K mg base 6 "_law_fills" spFills []) (Ce : Cal P w K mg base 6 "_law_end" spEnd []) : Cal P w K mg base 7 "_law_writer" spWriter [] := by
  obtain ⟨g, gd, ps, ds, h1, h2⟩ := (cal_writerT F b B Cd Cp Cf Ce).ex
  refine ⟨g, gd, ps, ds, h1.imp fun vs H Q E q => ?_, h2⟩
  obtain ⟨p, c, k, sm, bm, e1, e2, e3, e4, e5, e6, e7, kk⟩ := q
  exact ⟨p, c, k, sm, bm, e1, e2, e3, e4, e5, e6, e7, fun W S B t H' a1 a2 a3 a4 a5 _ a6 a7 => kk W S B t H' a1 a2 a3 a4 a5 a6 a7⟩
end

/-! ### recipes put together -/
def NE (r : Rc) : Prop := ∀ z, .s z ∈ r → 0 < z.length
theorem len_pos {z : Str} (h : z ≠ "") : 0 < z.length := by
  rcases Nat.eq_zero_or_pos z.length with e | e
  · refine absurd (Str.ext' ?_) h
    have e' : z.cps.size = 0 := e
    exact Array.size_eq_zero_iff.mp e'
  · exact e
inductive Nm : Rc → Prop
  | nil : Nm []
  | b {g : Rc} (i : Nat) : Nm g → Nm (g ++ [.b i])
  | s1 {z : Str} : 0 < z.length → Nm [.s z]
  | s {g : Rc} {i : Nat} {z : Str} : Nm (g ++ [.b i]) → 0 < z.length → Nm (g ++ [.b i] ++ [.s z])
theorem snoc_inj {α : Type} {f g : List α} {a b : α} (h : f ++ [a] = g ++ [b]) : f = g ∧ a = b := by
  have h1 := congrArg List.dropLast h
  have h2 := congrArg List.getLast? h
  rw [List.dropLast_concat, List.dropLast_concat] at h1
  rw [List.getLast?_concat, List.getLast?_concat] at h2
  exact ⟨h1, Option.some.inj h2⟩
theorem Nm.glue {f : Rc} (h : Nm f) : ∀ (g : Rc) (y z : Str), f = g ++ [.s y] → Nm (g ++ [.s (y ++ z)]) := by
  intro g y z e
  cases h with
  | nil => simp at e
  | b i _ =>
    obtain ⟨_, e2⟩ := snoc_inj e
    cases e2
  | @s1 x hx =>
    have e' : ([] : Rc) ++ [.s x] = g ++ [.s y] := e
    obtain ⟨e1, e2⟩ := snoc_inj e'
    subst e1
    cases e2
    exact .s1 (by rw [len_cat]; omega)
  | @s g' i x h' hx =>
    obtain ⟨e1, e2⟩ := snoc_inj e
    subst e1
    cases e2
    exact .s h' (by rw [len_cat]; omega)
theorem Nm.step {f : Rc} (h : Nm f) (q : Pt) : Nm (nstep f q) := by
  cases q with
  | b i => exact .b i h
  | s z =>
    rcases List.eq_nil_or_concat f with rfl | ⟨g, l, rfl⟩
    · rw [nstep_first]
      by_cases e : z = ""
      · rw [if_pos e]
        exact .nil
      · rw [if_neg e]
        exact .s1 (len_pos e)
    · rw [List.concat_eq_append] at *
      cases l with
      | s y =>
        rw [nstep_glue]
        exact h.glue g y z rfl
      | b i =>
        rw [nstep_behind]
        by_cases e : z = ""
        · rw [if_pos e]
          exact h
        · rw [if_neg e]
          exact .s h (len_pos e)
theorem nm_fold : ∀ (ps : Rc) {f : Rc}, Nm f → Nm (ps.foldl nstep f)
  | [], _, h => h
  | q :: r, _, h => nm_fold r (h.step q)
theorem normal_nm (ps : Rc) : Nm (normal ps) := nm_fold ps .nil
theorem normal_snoc (f : Rc) (q : Pt) : normal (f ++ [q]) = nstep (normal f) q := by
  unfold normal
  rw [List.foldl_append]
  rfl
theorem Nm.id {f : Rc} (h : Nm f) : normal f = f := by
  induction h with
  | nil => rfl
  | b i _ ih => rw [normal_snoc, ih]; rfl
  | @s1 z hz =>
    show nstep [] (.s z) = _
    rw [nstep_first, if_neg (fun e => by rw [len_empty e] at hz; omega)]
  | @s g i z _ hz ih => rw [normal_snoc, ih, nstep_behind, if_neg (fun e => by rw [len_empty e] at hz; omega)]
theorem Nm.ne {f : Rc} (h : Nm f) : NE f := by
  induction h with
  | nil => intro z hz; cases hz
  | b i _ ih =>
    intro z hz
    rcases List.mem_append.mp hz with hz | hz
    · exact ih z hz
    · cases List.mem_singleton.mp hz
  | @s1 x hx =>
    intro z hz
    cases List.mem_singleton.mp hz
    exact hx
  | @s g i x _ hx ih =>
    intro z hz
    rcases List.mem_append.mp hz with hz | hz
    · exact ih z hz
    · cases List.mem_singleton.mp hz
      exact hx

/-! ### a drawn recipe: how few letters and buffers it has -/
/-- a recipe as it is drawn: at most six letters, two buffers -/
def TR (r : Rc) : Prop := lets r ≤ 6 ∧ (bufs r).length ≤ 2 ∧ NE r
def spFillF : Sp := fun vs H Q _ => ∃ (p c l : Addr) (ls : List Nat) (own : Int), vs = [.ref p, .ref l, .int own] ∧ Pen H p c ∧ l ≠ p ∧ l ≠ c ∧ H l = some (.lst ((iN ls).map V.int)) ∧ ls.length ≤ 100 ∧
  ∀ (r : Rc) (t : Addr) (ls' : List Nat) H', Kp p c (hide H l) H' → H t = none → H' t = some (.tup (r.map Pt.v)) → H' l = some (.lst ((iN ls').map V.int)) → (bufs r ++ ls').Perm ls → lets r ≤ 10 → lowR r → r.length ≤ 5 → TR r → Q (.ref t) H'
/-- between two turns: the parts so far at q, what is left at l -/
structure FIF (H : Hp) (p c l q : Addr) (ls : List Nat) (n : Nat) (ps : Rc) (ls' : List Nat) (H' : Hp) : Prop where
  kp : Kp p c (hide H l) H'
  hq : H' q = some (.lst (ps.map Pt.v))
  hl : H' l = some (.lst ((iN ls').map V.int))
  perm : (bufs ps ++ ls').Perm ls
  lt : lets ps ≤ 2 * n
  len : ps.length ≤ n
  low : lowR ps
  ltT : lets ps ≤ 2 * ((n + 1) / 2)
  bT : (bufs ps).length ≤ n / 2
theorem FIF.more {H : Hp} {p c l q : Addr} {ls : List Nat} {n m : Nat} {ps : Rc} {ls' : List Nat} {H' : Hp} (h : FIF H p c l q ls n ps ls' H') (hm : n ≤ m) : FIF H p c l q ls m ps ls' H' :=
  ⟨h.kp, h.hq, h.hl, h.perm, Nat.le_trans h.lt (Nat.mul_le_mul_left 2 hm), Nat.le_trans h.len hm, h.low, Nat.le_trans h.ltT (by omega), Nat.le_trans h.bT (by omega)⟩
theorem FIF.drawn {H : Hp} {p c l q : Addr} {ls : List Nat} {n : Nat} {ps : Rc} {ls' : List Nat} {H1 H2 : Hp} (h : FIF H p c l q ls n ps ls' H1) (np : q ≠ p) (nl : l ≠ p) (k : Kp p c H1 H2) : FIF H p c l q ls n ps ls' H2 :=
  ⟨h.kp.trans k, k.but _ _ np h.hq, k.but _ _ nl h.hl, h.perm, h.lt, h.len, h.low, h.ltT, h.bT⟩
theorem FIF.new {H : Hp} {p c l q e : Addr} {o : HO} {ls : List Nat} {n : Nat} {ps : Rc} {ls' : List Nat} {H1 : Hp} (h : FIF H p c l q ls n ps ls' H1) (he : H1 e = none) : FIF H p c l q ls n ps ls' (upd H1 e o) :=
  ⟨h.kp.new he, by rw [upd_ne (ne_of_none h.hq he)]; exact h.hq, by rw [upd_ne (ne_of_none h.hl he)]; exact h.hl, h.perm, h.lt, h.len, h.low, h.ltT, h.bT⟩
/-- a piece put behind -/
theorem FIF.piece {H : Hp} {p c l q : Addr} {ls : List Nat} {n : Nat} {ps : Rc} {ls' : List Nat} {H1 : Hp} {z : Str} (hP : Pen (hide H l) p c) (hq : H q = none) (nq : q ≠ l) (h : FIF H p c l q ls n ps ls' H1) (hz : Tx 2 z) (hev : n % 2 = 0) :
    FIF H p c l q ls (n + 1) (ps ++ [.s z]) ls' (upd H1 q (.lst (ps.map Pt.v ++ [.str z]))) := by
  have hq0 : hide H l q = none := by rw [hide_ne nq]; exact hq
  refine ⟨h.kp.put hP hq0, ?_, ?_, ?_, ?_, ?_, ?_, ?_, ?_⟩
  · rw [upd_same, List.map_append]
    rfl
  · rw [upd_ne nq.symm]
    exact h.hl
  · rw [bufs_app, bufs_one]
    show (bufs ps ++ [] ++ ls').Perm ls
    rw [List.append_nil]
    exact h.perm
  · rw [lets_app, lets_one]
    have a := h.lt
    have b : (Pt.s z).let ≤ 2 := hz.len
    omega
  · rw [List.length_append, List.length_singleton]
    have := h.len
    omega
  · exact lowR_app h.low (lowR_one hz.low)
  · rw [lets_app, lets_one]
    have a := h.ltT
    have b : (Pt.s z).let ≤ 2 := hz.len
    omega
  · rw [bufs_app, bufs_one]
    show (bufs ps ++ []).length ≤ (n + 1) / 2
    rw [List.append_nil]
    have := h.bT
    omega
/-- a buffer taken out of what is left, put behind -/
theorem FIF.take {H : Hp} {p c l q : Addr} {ls : List Nat} {n : Nat} {ps : Rc} {ls' : List Nat} {H1 : Hp} {k : Nat} (hP : Pen (hide H l) p c) (hq : H q = none) (nq : q ≠ l) (h : FIF H p c l q ls n ps ls' H1) (hk : k < ls'.length) (hod : n % 2 = 1) :
    FIF H p c l q ls (n + 1) (ps ++ [.b ls'[k]]) (ls'.eraseIdx k) (upd (upd H1 l (.lst (((iN ls').map V.int).eraseIdx k))) q (.lst (ps.map Pt.v ++ [.int ls'[k]]))) := by
  have hq0 : hide H l q = none := by rw [hide_ne nq]; exact hq
  refine ⟨(h.kp.put hP hide_self).put hP hq0, ?_, ?_, ?_, ?_, ?_, ?_, ?_, ?_⟩
  · rw [upd_same, List.map_append]
    rfl
  · rw [upd_ne nq.symm, upd_same]
    unfold iN
    rw [erase_map, erase_map]
  · rw [bufs_app, bufs_one]
    show (bufs ps ++ [ls'[k]] ++ ls'.eraseIdx k).Perm ls
    rw [List.append_assoc]
    exact ((erase_perm ls' k hk).append_left _).trans h.perm
  · rw [lets_app, lets_one]
    have a := h.lt
    show lets ps + 0 ≤ 2 * (n + 1)
    omega
  · rw [List.length_append, List.length_singleton]
    have := h.len
    omega
  · exact lowR_app h.low (lowR_one True.intro)
  · rw [lets_app, lets_one]
    have a := h.ltT
    show lets ps + 0 ≤ 2 * ((n + 1 + 1) / 2)
    omega
  · rw [bufs_app, bufs_one, List.length_append]
    show (bufs ps).length + 1 ≤ (n + 1) / 2
    have := h.bT
    omega
section
variable {P : Program} {w : World} {K : PySem.W.Frag} {mg : Str → Option Value} {base : Heap} {f : Addr} {fd : FuncData}
theorem cal_fillF (F : C8.Def K mg "_law_fill" st_law_fill f fd) (b : Binds K fd ["pen", "left", "own"] []) (B : BN2 mg) (Cd : Cal P w K mg base 2 "_law_draw" spDraw []) (Co : Cal P w K mg base 3 "_law_one_of" (spOne K) [])
    (Cp : Cal P w K mg base 4 "_law_piece" spPiece []) (Cn : Cal P w K mg base 1 "_law_normal" (spNormal K) []) : Cal P w K mg base 5 "_law_fill" spFillF [] := by
  refine cal0 F b .nil sc_fill (fun vs H Q E h => ?_) (fun cdv A outer s H vs Q E hr h => ?_)
  · obtain ⟨p, c, l, ls, own, rfl, _⟩ := h
    rfl
  · obtain ⟨p, c, l, ls, own, rfl, hP, nlp, nlc, hl, hln, k⟩ := h
    refine ⟨_, pss_cons (ps_set (i := 3) sc_fill.nd rfl (Or.inl rfl) (pe_lst pa_nil))
      (pss_cons (ps_for PassesOwn.never rfl (pi_range1 rfl B.range (pa_cons (pe_c Co hr (by decide) (by rfl) (pa_cons (pv 0) (pa_cons (pe_lst (pa_cons pe_int (pa_cons pe_int (pa_cons pe_int (pa_cons pe_int (pa_cons pe_int (pa_cons pe_int pa_nil))))))) pa_nil))) pa_nil)) (pg_name (i := 4) sc_fill.nd rfl (Or.inl rfl))
        (pss_cut (ps_if (pt_cmpR op_eq (pe_c Cd hr (by decide) (by rfl) (pa_cons (pv 0) (pa_cons pe_int pa_nil))) pe_int (nomark _))
            (pss_one (ps_expr (pe_bm PySem.F.plainAttrs_list PySem.F.slot_list_append PySem.F.type_list_append mt_append (pv 3) (pa_cons (pe_c Cp hr (by decide) (by rfl) (pa_cons (pv 0) (pa_cons pe_int pa_nil))) pa_nil)))) pss_nil)
          (pss_one (ps_if (pt_cmpR (op_neD hr.units) (pv 1) (pe_lst pa_nil) (nomark _))
            (pss_cut (ps_set (i := 5) sc_fill.nd rfl (Or.inl rfl) (pe_ifExp (PW.pt (pw_and (pt_cmpR op_in_seq (pv 2) (pv 1) (by with_unfolding_all rfl)) (pw_and1 (pt_cmpR op_gt (pe_c Cd hr (by decide) (by rfl) (pa_cons (pv 0) (pa_cons pe_int pa_nil))) pe_int (nomark _)))))
                (pe_bm PySem.F.plainAttrs_list PySem.F.slot_list_index PySem.F.type_list_index mt_index (pv 1) (pa_cons (pv 2) pa_nil))
                (pe_c Cd hr (by decide) (by rfl) (pa_cons (pv 0) (pa_cons (pe_callB call_len_seq (by rfl) B.len PySem.boot_len (pa_cons (pv 1) pa_nil)) pa_nil)))))
              (pss_one (ps_expr (pe_bm PySem.F.plainAttrs_list PySem.F.slot_list_append PySem.F.type_list_append mt_append (pv 3) (pa_cons (pe_bm PySem.F.plainAttrs_list PySem.F.slot_list_pop PySem.F.type_list_pop mt_popAt (pv 1) (pa_cons (pv 5) pa_nil)) pa_nil))))) pss_nil))))
      (pss_cut (ps_if (pt_cmpR op_eq (pe_c Cd hr (by decide) (by rfl) (pa_cons (pv 0) (pa_cons pe_int pa_nil))) pe_int (nomark _))
            (pss_one (ps_expr (pe_bm PySem.F.plainAttrs_list PySem.F.slot_list_append PySem.F.type_list_append mt_append (pv 3) (pa_cons (pe_c Cp hr (by decide) (by rfl) (pa_cons (pv 0) (pa_cons pe_int pa_nil))) pa_nil)))) pss_nil)
      (pss_one (ps_ret (pe_c Cn hr (by decide) (by rfl) (pa_cons (pv 3) pa_nil)))))), ?_⟩
    have hPh := hP.hide nlp nlc
    refine ⟨Nat.zero_le _, fun q hq => ?_⟩
    have nqp : q ≠ p := hP.ne hq
    have nql : q ≠ l := (ne_of_none hl hq).symm
    have I0 : FIF H p c l q ls 0 [] ls (upd H q (.lst [])) := ⟨(Kp.hide0 hP).new hq, upd_same, by rw [upd_ne nql.symm]; exact hl, List.Perm.refl _, Nat.le_refl _, Nat.le_refl _, (fun x hx => by cases hx), Nat.le_refl _, Nat.le_refl _⟩
    -- a piece, perhaps, in both places
    have perhaps : ∀ (n : Nat) (ps : Rc) (ls' : List Nat) (H1 : Hp) (G : Hp → Prop), n ≤ 100 → n % 2 = 0 → FIF H p c l q ls n ps ls' H1 → (∀ ps' H2, FIF H p c l q ls (n + 1) ps' ls' H2 → G H2) →
        ∀ (d : Int) (H2 : Hp), Kp p c H1 H2 → (if decide (V.int d = V.int 0) = true then
          (spPiece [.ref p, .int 2] H2 (fun x H3 => rAppend (.ref q) [x] H3 fun _ H4 => G H4) E0) else G H2) := by
      intro n ps ls' H1 G hn hev h kG d H2 kk
      have h2 := h.drawn nqp nlp kk
      refine ite2 (fun _ => ?_) (fun _ => ?_)
      · refine ⟨p, c, 2, rfl, h2.kp.pen, by decide, by decide, fun z H3 z0 hz k3 => ?_⟩
        have h3 := h2.drawn nqp nlp k3
        refine ⟨q, _, _, rfl, rfl, h3.hq, ?_, kG _ _ (h3.piece hPh hq nql hz hev)⟩
        rw [List.length_map]
        exact Nat.lt_of_le_of_lt (Nat.le_trans h.len hn) (by decide)
      · exact kG ps H2 (h2.more (Nat.le_succ _))
    refine ⟨_, rfl, (by show 6 ≤ sizeLine; decide), fun a ha => ⟨p, c, I0.kp.pen.new ha, .inl ⟨a, _, rfl, I0.kp.pen.ne ha, SqL.of upd_same, by decide, by decide, fun x H1 hx k1 => ?_⟩⟩⟩
    obtain ⟨m, hm, rfl⟩ : ∃ m : Nat, m ≤ 2 ∧ x = V.int m := by
      have hx' : x ∈ ([0, 1, 1, 1, 1, 2] : List Int).map V.int := hx
      obtain ⟨z, h1, h2⟩ := List.mem_map.mp hx'
      obtain ⟨h3, h4⟩ := menu012 z h1
      exact ⟨z.toNat, by omega, by rw [← h2, Int.toNat_of_nonneg h3]⟩
    have I1 := (I0.new (o := .lst ([0, 1, 1, 1, 1, 2].map V.int)) ha).drawn nqp nlp k1
    refine ⟨m, rfl, by omega, by omega, for_range (n := (m : Int).toNat) (fun i σ H' => (∃ v4 v5 : Option V, σ = [some (.ref p), some (.ref l), some (.int own), some (.ref q), v4, v5]) ∧ ∃ ps ls', FIF H p c l q ls (2 * i) ps ls' H') ⟨⟨_, _, rfl⟩, _, _, I1⟩ ?_ ?_⟩
    · rintro i σ H2 hi ⟨⟨v4, v5, rfl⟩, ps, ls', I⟩
      refine ⟨fun σ H' => σ = [some (.ref p), some (.ref l), some (.int own), some (.ref q), some (.int (0 + (i : Int))), v5] ∧ ∃ ps, FIF H p c l q ls (2 * i + 1) ps ls' H', ?_, ?_⟩
      · refine ⟨_, rfl, p, c, 3, rfl, I.kp.pen, by decide, by decide, fun d H3 d0 d1 k3 => ⟨rfl, _, rfl, ?_⟩⟩
        have I3 := I.drawn nqp nlp k3
        have z := perhaps (2 * i) ps ls' H2 (fun H' => [some (V.ref p), some (.ref l), some (.int own), some (.ref q), some (.int (0 + (i : Int))), v5] = [some (V.ref p), some (.ref l), some (.int own), some (.ref q), some (.int (0 + (i : Int))), v5] ∧ ∃ ps, FIF H p c l q ls (2 * i + 1) ps ls' H') (by omega) (by omega) I (fun ps' H4 h4 => ⟨rfl, ps', h4⟩) d H3 k3
        by_cases hd : decide (V.int d = V.int 0) = true
        · rw [if_pos hd] at z
          refine iteT' hd ?_
          exact ⟨_, rfl, .inl ⟨rfl, _, SqL.of I3.hq⟩, _, rfl, z⟩
        · rw [if_neg hd] at z
          exact iteF' (eq_false_of_ne_true hd) z
      · rintro σ H3 ⟨rfl, ps3, I3⟩
        refine ⟨_, rfl, Nat.zero_le _, fun e he => ?_⟩
        have I4 := I3.new (o := .lst []) he
        refine ⟨.list ((iN ls').map PyData.int), .list [], .lst (SqL.of I4.hl) (dp_ints _), .lst (SqL.of upd_same) .nil, shaped_ints _, by decide, _, rfl, ?_⟩
        rw [ints_ne_nil]
        by_cases hne : ls' = []
        · subst hne
          refine iteF ?_
          exact ⟨⟨_, _, rfl⟩, ps3, [], by rw [Nat.mul_succ]; exact I4.more (Nat.le_succ _)⟩
        · have hpos : 0 < ls'.length := List.length_pos_iff.mpr hne
          have hle : ls'.length ≤ 100 := by
            have := I4.perm.length_eq
            rw [List.length_append] at this
            omega
          have hem : (!(iN ls').isEmpty) = true := by
            cases ls' with
            | nil => exact absurd rfl hne
            | cons a r => rfl
          rw [hem]
          refine iteT ?_
          refine ⟨fun σ H' => (∃ k : Nat, k < ls'.length ∧ σ = [some (.ref p), some (.ref l), some (.int own), some (.ref q), some (.int (0 + (i : Int))), some (.int k)]) ∧ FIF H p c l q ls (2 * i + 1) ps3 ls' H', ?_, ?_⟩
          · -- which one: the own one, or a drawn one
            have other : ∀ H4, FIF H p c l q ls (2 * i + 1) ps3 ls' H4 → spDraw [.ref p, .int (((iN ls').map V.int).length : Nat)] H4 (fun x H' => (∃ k : Nat, k < ls'.length ∧ [some (V.ref p), some (.ref l), some (.int own), some (.ref q), some (.int (0 + (i : Int))), some x] = [some (.ref p), some (.ref l), some (.int own), some (.ref q), some (.int (0 + (i : Int))), some (.int k)]) ∧ FIF H p c l q ls (2 * i + 1) ps3 ls' H') E0 := fun H4 J => by
              have en : ((iN ls').map V.int).length = ls'.length := by
                unfold iN
                rw [List.length_map, List.length_map]
              rw [en]
              refine ⟨p, c, _, rfl, J.kp.pen, by omega, log_small (by omega) (by omega), fun d H5 d0 d1 k5 => ⟨⟨d.toNat, by omega, ?_⟩, J.drawn nqp nlp k5⟩⟩
              rw [Int.toNat_of_nonneg d0]
            refine ⟨_, rfl, _, rfl, l, _, rfl, .inl (SqL.of I4.hl), rfl, flat_ints _, _, rfl, ?_⟩
            cases hin : inV (.int own) ((iN ls').map V.int) with
            | false =>
              refine iteF (iteF ?_)
              exact ⟨_, rfl, _, rfl, l, _, rfl, .inl (SqL.of I4.hl), other _ I4⟩
            | true =>
              refine iteT ?_
              refine ⟨_, rfl, p, c, 3, rfl, I4.kp.pen, by decide, by decide, fun d H5 d0 d1 k5 => ?_⟩
              have I5 := I4.drawn nqp nlp k5
              refine ⟨_, _, rfl, rfl, _, rfl, ?_⟩
              refine ite2 (fun _ => ?_) (fun _ => ?_)
              · obtain ⟨j, z, j1, j2, j3⟩ := first_hit (xs := (iN ls').map V.int) (t := fun y => eqV y (.int own)) hin
                have hj : j < ls'.length := by
                  have q := (List.getElem?_eq_some_iff.mp j1).1
                  unfold iN at q
                  rw [List.length_map, List.length_map] at q
                  exact q
                exact ⟨_, rfl, .inl ⟨rfl, _, SqL.of I5.hl⟩, _, rfl, l, _, _, j, z, rfl, rfl, SqL.of I5.hl, rfl, flat_ints _, j1, j2, j3, ⟨j, hj, rfl⟩, I5⟩
              · exact ⟨_, rfl, _, rfl, l, _, rfl, .inl (SqL.of I5.hl), other _ I5⟩
          · rintro σ H4 ⟨⟨k', hk, rfl⟩, I5⟩
            have hlen : ((iN ls').map V.int).length = ls'.length := by
              unfold iN
              rw [List.length_map, List.length_map]
            refine ⟨_, rfl, .inl ⟨rfl, _, SqL.of I5.hq⟩, _, rfl, .inl ⟨rfl, _, SqL.of I5.hl⟩, _, rfl, l, _, _, k', .int (ls'[k'] : Nat), rfl, rfl, I5.hl, by omega, by omega, ?_, ?_, ?_⟩
            · refine (ixN_seq (n := ((iN ls').map V.int).length) (i := (k' : Int)) (j := k') ?_).1
              unfold ixN
              rw [if_pos (by omega), if_pos (by omega)]
              exact congrArg some (by omega)
            · unfold iN
              rw [List.getElem?_map, List.getElem?_map, List.getElem?_eq_getElem hk]
              rfl
            · refine ⟨q, _, _, rfl, rfl, (by rw [upd_ne nql]; exact I5.hq), ?_, ⟨_, _, rfl⟩, ps3 ++ [.b ls'[k']], ls'.eraseIdx k', ?_⟩
              · rw [List.length_map]
                exact Nat.lt_of_le_of_lt (Nat.le_trans I5.len (show 2 * i + 1 ≤ 100 by omega)) (by decide)
              · rw [Nat.mul_succ]
                exact I5.take hPh hq nql hk (by omega)
    · rintro σ H2 ⟨⟨v4, v5, rfl⟩, ps, ls', I⟩
      have I' := I.more (show 2 * (m : Int).toNat ≤ 4 by omega)
      refine ⟨fun σ H' => σ = [some (.ref p), some (.ref l), some (.int own), some (.ref q), v4, v5] ∧ ∃ ps, FIF H p c l q ls 5 ps ls' H', ?_, ?_⟩
      · refine ⟨_, rfl, p, c, 2, rfl, I.kp.pen, by decide, by decide, fun d H3 d0 d1 k3 => ⟨rfl, _, rfl, ?_⟩⟩
        have I3 := I'.drawn nqp nlp k3
        have z := perhaps 4 ps ls' H2 (fun H' => [some (V.ref p), some (.ref l), some (.int own), some (.ref q), v4, v5] = [some (V.ref p), some (.ref l), some (.int own), some (.ref q), v4, v5] ∧ ∃ ps, FIF H p c l q ls 5 ps ls' H') (by omega) (by omega) I' (fun ps' H4 h4 => ⟨rfl, ps', h4⟩) d H3 k3
        by_cases hd : decide (V.int d = V.int 0) = true
        · rw [if_pos hd] at z
          refine iteT' hd ?_
          exact ⟨_, rfl, .inl ⟨rfl, _, SqL.of I3.hq⟩, _, rfl, z⟩
        · rw [if_neg hd] at z
          exact iteF' (eq_false_of_ne_true hd) z
      · rintro σ H3 ⟨rfl, ps3, I3⟩
        have hlen3 : ps3.length ≤ 5 := I3.len
        have hlet3 : lets ps3 ≤ 10 := I3.lt
        refine ⟨_, rfl, q, ps3, rfl, SqL.of I3.hq, Nat.le_trans hlen3 (by decide), Nat.le_trans hlet3 (by decide), I3.low, fun t H4 s4 t3 t4 => ?_⟩
        obtain ⟨n1, n2, n3, n4⟩ := normal_ok ps3 []
        refine k (normal ps3) t ls' H4 (I3.kp.same s4) (I3.kp.freeH I3.hl t3) t4 (s4 _ _ I3.hl) ?_ ?_ ?_ ?_ ?_
        · have e : bufs (normal ps3) = bufs ps3 := n1
          rw [e]
          exact I3.perm
        · have e : lets (normal ps3) = 0 + lets ps3 := n2
          omega
        · exact n4 (fun x hx => by cases hx) I3.low
        · have e : (normal ps3).length ≤ 0 + ps3.length := n3
          omega
        · have e1 : bufs (normal ps3) = bufs ps3 := n1
          have e2 : lets (normal ps3) = 0 + lets ps3 := n2
          have q1 := I3.ltT
          have q2 := I3.bT
          exact ⟨by omega, by rw [e1]; omega, (normal_nm ps3).ne⟩
end

/-! ### drawn recipes, each of few letters -/
/-- behind the loop: the recipes in the buffers' order -/
theorem fok_ofF {n : Nat} {xs : List Ent} {os ls' : List Nat} (he : xs.map (·.1) = os) (ho : os.Perm (List.range n)) (hp : (xs.flatMap (fun x => bufs x.2.2) ++ ls').Perm (List.range n)) (hr : ∀ x ∈ xs, ROk x.2.2 ∧ TR x.2.2) :
    FOk n ((List.range n).map fun i => (pickE xs i).2) ∧ ∀ r ∈ (List.range n).map fun i => (pickE xs i).2, TR r := by
  have nd : (xs.map (·.1)).Nodup := by rw [he]; exact ho.nodup_iff.mpr List.nodup_range
  have e1 : xs.flatMap (fun x => bufs x.2.2) = os.flatMap fun i => bufs (pickE xs i).2 := by
    rw [← he, List.flatMap_map]
    exact flat_same fun x hx => by rw [pick_self xs nd x hx]
  have e2 : (((List.range n).map fun i => (pickE xs i).2).flatMap bufs).Perm (xs.flatMap fun x => bufs x.2.2) := by
    rw [e1, List.flatMap_map]
    exact (ho.flatMap_right _).symm
  have nd2 : (xs.flatMap (fun x => bufs x.2.2)).Nodup := (List.nodup_append.mp (hp.nodup_iff.mpr List.nodup_range)).1
  refine ⟨⟨by rw [List.length_map, List.length_range], e2.nodup_iff.mpr nd2, fun i hi => ?_, fun r hr' => ?_⟩, fun r hr' => ?_⟩
  · have h1 := hp.mem_iff.mp (List.mem_append_left ls' (e2.mem_iff.mp hi))
    exact List.mem_range.mp h1
  · obtain ⟨i, h1, rfl⟩ := List.mem_map.mp hr'
    have h2 : i ∈ xs.map (·.1) := by rw [he]; exact ho.mem_iff.mpr h1
    exact (hr _ (pick_val xs i h2).2).1
  · obtain ⟨i, h1, rfl⟩ := List.mem_map.mp hr'
    have h2 : i ∈ xs.map (·.1) := by rw [he]; exact ho.mem_iff.mpr h1
    exact (hr _ (pick_val xs i h2).2).2

def spFillsF : Sp := fun vs H Q _ => ∃ (p c : Addr) (n : Nat), vs = [.ref p, .int n] ∧ Pen H p c ∧ n ≤ 50 ∧
  ∀ (fs : List Rc) (t : Addr) H', Kp p c H H' → Tp H' (.ref t) (fillsD fs) → FOk n fs → (∀ r ∈ fs, TR r) → Q (.ref t) H'
section
variable {P : Program} {w : World} {K : PySem.W.Frag} {mg : Str → Option Value} {base : Heap} {f : Addr} {fd : FuncData}
theorem cal_fillsF (F : C8.Def K mg "_law_fills" st_law_fills f fd) (b : Binds K fd ["pen", "buffers"] []) (B : BN2 mg) (Cd : Cal P w K mg base 2 "_law_draw" spDraw []) (Cf : Cal P w K mg base 5 "_law_fill" spFillF []) : Cal P w K mg base 6 "_law_fills" spFillsF [] := by
  refine cal0 F b .nil sc_fills (fun vs H Q E h => ?_) (fun cdv A outer s H vs Q E hr h => ?_)
  · obtain ⟨p, c, n, rfl, _⟩ := h
    rfl
  · obtain ⟨p, c, n, rfl, hP, hn, k⟩ := h
    refine ⟨_, pss_cons (ps_set (i := 2) sc_fills.nd rfl (Or.inl rfl) (pe_listRg rfl (by rfl) B.list (prg_1 (by rfl) B.range (pv 1))))
      (pss_cut (ps_set (i := 3) sc_fills.nd rfl (Or.inl rfl) (pe_ifExp (pt_cmpR op_eq (pe_c Cd hr (by decide) (by rfl) (pa_cons (pv 0) (pa_cons pe_int pa_nil))) pe_int (nomark _)) (pe_revL (pv 2)) (pe_callTy call_list_of (by rfl) B.list (by decide +kernel) (pa_cons (pv 2) pa_nil))))
      (pss_cons (ps_set (i := 4) sc_fills.nd rfl (Or.inr rfl) pe_dnewK)
      (pss_cons (ps_for PassesOwn.never rfl (pi_list (pv 3)) (pg_name (i := 5) sc_fills.nd rfl (Or.inl rfl))
        (pss_one (ps_dput (hu_of hr) (pv 4) (pv 5) (pe_c Cf hr (by decide) (by rfl) (pa_cons (pv 0) (pa_cons (pv 2) (pa_cons (pv 5) pa_nil)))) rfl)))
      (pss_one (ps_ret (pe_callTy call_tuple_of (by rfl) B.tuple (by decide +kernel) (pa_cons (pe_lc (own := [("buffer", 5)]) (g := gName 5) (tt := tYes) (by rfl) sc_fills.nd (pi_range1 rfl B.range (pa_cons (pv 1) pa_nil))
        (blkOk_by (own := [("buffer", 5)]) (N := ["pen", "buffers", "left", "order", "found", "buffer"]) (sc := fnScope st_law_fills) (by decide +kernel)) (fun _ _ _ _ _ => pg_name (i := 5) sc_fills.nd rfl (Or.inl rfl)) (fun _ _ _ _ _ => pts_nil)
        (fun _ _ _ _ _ => pe_dget (hu_of hr) (pv 4) (pv 5) (fun _ _ => rfl))) pa_nil))))))), ?_⟩
    refine ⟨_, rfl, n, rfl, RgOk.of_le (by decide) (by omega) (by decide) (by omega), fun l hl => ?_⟩
    have kl : Kp p c H (upd H l (.lst (rgV 0 (n : Int)))) := (Kp.rfl' hP).new hl
    have nlp : l ≠ p := hP.ne hl
    have nlc : l ≠ c := hP.neC hl
    have hL : upd H l (.lst (rgV 0 (n : Int))) l = some (.lst ((iN (List.range n)).map V.int)) := by rw [upd_same, rg_eq]
    -- the order: the buffers, in one order
    refine ⟨fun σ H' => ∃ (o : Addr) (os : List Nat), σ = [some (.ref p), some (.int n), some (.ref l), some (.ref o), none, none] ∧ os.Perm (List.range n) ∧ Kp p c H H' ∧ H o = none ∧ o ≠ l ∧ H' o = some (.lst ((iN os).map V.int)) ∧ H' l = some (.lst ((iN (List.range n)).map V.int)), ?_, ?_⟩
    · refine ⟨_, rfl, p, c, 4, rfl, kl.pen, by decide, by decide, fun d H1 d0 d1 k1 => ⟨rfl, _, rfl, ?_⟩⟩
      have kA := kl.trans k1
      have hL1 := k1.but _ _ nlp hL
      refine ite2 (fun _ => ?_) (fun _ => ?_)
      · refine ⟨_, rfl, l, _, rfl, SqL.of hL1, fun o ho => ⟨o, (List.range n).reverse, rfl, List.reverse_perm _, kA.new ho, kA.free ho, (ne_of_none hL1 ho).symm, ?_, ?_⟩⟩
        · rw [upd_same]
          unfold iN
          rw [List.map_reverse, List.map_reverse]
        · rw [upd_ne (ne_of_none hL1 ho)]
          exact hL1
      · refine ⟨_, rfl, l, _, rfl, .inl (SqL.of hL1), fun o ho => ⟨o, List.range n, rfl, List.Perm.refl _, kA.new ho, kA.free ho, (ne_of_none hL1 ho).symm, upd_same, ?_⟩⟩
        rw [upd_ne (ne_of_none hL1 ho)]
        exact hL1
    · rintro σ H1 ⟨o, os, rfl, hos, k1, o0, nol, hO, hL1⟩
      intro D hD
      have nop : o ≠ p := hP.ne o0
      have hDl : D ≠ l := (ne_of_none hL1 hD).symm
      have hDo : D ≠ o := (ne_of_none hO hD).symm
      have D0 : H D = none := k1.free hD
      have nDp : D ≠ p := hP.ne D0
      refine ⟨_, rfl, o, rfl, ⟨_, (show SqL K (upd H1 D (.dK [])) o ((iN os).map V.int) from SqL.of (by rw [upd_ne hDo.symm]; exact hO))⟩, for_list (K := K) (a := o) (xs := (iN os).map V.int)
        (fun i σ H' => (∃ v : Option V, σ = [some (.ref p), some (.int n), some (.ref l), some (.ref o), some (.ref D), v]) ∧ Kp p c H H' ∧ H' o = some (.lst ((iN os).map V.int)) ∧ ∃ (xs : List Ent) (ls' : List Nat), xs.map (·.1) = os.take i ∧ H' D = some (.dK (kvsE xs)) ∧ H' l = some (.lst ((iN ls').map V.int)) ∧
          (xs.flatMap (fun x => bufs x.2.2) ++ ls').Perm (List.range n) ∧ ∀ x ∈ xs, H' x.2.1 = some (.tup (x.2.2.map Pt.v)) ∧ ROk x.2.2 ∧ TR x.2.2)
        ⟨⟨none, rfl⟩, k1.new hD, by rw [upd_ne hDo.symm]; exact hO, [], List.range n, rfl, upd_same, by rw [upd_ne hDl.symm]; exact hL1, List.Perm.refl _, fun x hx => by cases hx⟩ (fun i σ H' _ h => SqL.of h.2.2.1) ?_ ?_⟩
      · rintro i y σ H2 hi ⟨⟨v, rfl⟩, k2, hO2, xs, ls', ex, hD2, hL2, hp, hx⟩
        obtain ⟨z, hz, rfl⟩ : ∃ z, os[i]? = some z ∧ y = V.int (z : Nat) := by
          unfold iN at hi
          rw [List.map_map, List.getElem?_map] at hi
          cases e : os[i]? with
          | none =>
            rw [e] at hi
            cases hi
          | some u =>
            rw [e] at hi
            exact ⟨u, rfl, (Option.some.inj hi).symm⟩
        have hln : ls'.length ≤ 100 := by
          have := hp.length_eq
          rw [List.length_append, List.length_range] at this
          omega
        refine ⟨_, rfl, _, rfl, _, rfl, p, c, l, ls', _, rfl, k2.pen, nlp, nlc, hL2, hln, fun r t ls2 H3 k3 t0 t1 t2 pm l1 l2 l3 l4 => ?_⟩
        have hD3 : H3 D = some (.dK (kvsE xs)) := k3.unhide nDp hDl hD2
        have hO3 := k3.unhide nop nol hO2
        have zn : z ∉ xs.map (·.1) := by
          rw [ex]
          intro zm
          have nd : os.Nodup := hos.nodup_iff.mpr List.nodup_range
          obtain ⟨j, hj⟩ := List.mem_iff_getElem?.mp zm
          have hji : j < i := by
            have := (List.getElem?_eq_some_iff.mp hj).1
            rw [List.length_take] at this
            omega
          rw [List.getElem?_take_of_lt hji] at hj
          have := nd_ix nd hj hz
          omega
        have hle : (kvsE xs).length ≤ 50 := by
          unfold kvsE
          rw [List.length_map]
          have e1 := congrArg List.length ex
          have e2 := hos.length_eq
          rw [List.length_map, List.length_take] at e1
          rw [List.length_range] at e2
          omega
        have putD : DPut H3 D (.int (z : Nat)) (.ref t) (upd H3 D (.dK (kvsE xs ++ [(Sum.inl (z : Int), .ref t)]))) := by
          have q := DPut.k (k := Sum.inl (z : Int)) (v := V.ref t) hD3 (Nat.lt_of_le_of_lt hle (by decide))
          rw [put_new xs z _ zn] at q
          exact q
        have hDt : D ≠ t := by
          have e : H2 D = some (.dK (kvsE xs)) := hD2
          exact ne_of_none e t0
        refine ⟨_, rfl, _, rfl, D, _, rfl, putD, ⟨_, rfl⟩, ?_, ?_, xs ++ [(z, t, r)], ls2, ?_, ?_, ?_, ?_, ?_⟩
        · exact (k2.thru k3 hl).put hP D0
        · rw [upd_ne hDo.symm]
          exact hO3
        · rw [List.map_append, ex, List.take_add_one, hz]
          rfl
        · rw [upd_same]
          unfold kvsE
          rw [List.map_append]
          rfl
        · rw [upd_ne hDl.symm]
          exact t2
        · rw [List.flatMap_append, List.flatMap_cons, List.flatMap_nil, List.append_nil, List.append_assoc]
          exact (pm.append_left _).trans hp
        · intro x hm
          rcases List.mem_append.mp hm with hm | hm
          · obtain ⟨h1, h2⟩ := hx x hm
            refine ⟨?_, h2⟩
            rw [upd_ne (ne_of h1 hD2 (by intro q; cases q))]
            exact k3.unhide (by
              obtain ⟨ns, i', j', g1, _⟩ := k2.pen
              exact ne_of h1 g1 (by intro q; cases q)) (ne_of h1 hL2 (by intro q; cases q)) h1
          · obtain rfl := List.mem_singleton.mp hm
            refine ⟨?_, ⟨l1, l2, l3⟩, l4⟩
            rw [upd_ne hDt.symm]
            exact t1
      · rintro σ H2 ⟨⟨v, rfl⟩, k2, hO2, xs, ls', ex, hD2, hL2, hp, hx⟩
        have eos : ((iN os).map V.int).length = os.length := by
          unfold iN
          rw [List.length_map, List.length_map]
        rw [eos, List.take_length] at ex
        obtain ⟨fok, fokT⟩ := fok_ofF ex hos hp fun x hm => (hx x hm).2
        refine ⟨_, rfl, n, rfl, by omega, by omega, fun E hE => ?_⟩
        refine lc_range (lo := 0) (n := (n : Int).toNat) (fun i H' => Same H2 H' ∧ H' E = some (.lst ((List.range i).map fun j => V.ref (pickE xs j).1))) ⟨same_new hE, upd_same⟩ ?_ ?_
        · rintro i H3 hi ⟨s3, hE3⟩
          have him : i ∈ xs.map (·.1) := by
            rw [ex]
            exact hos.mem_iff.mpr (List.mem_range.mpr (by omega))
          refine ⟨rfl, ?_⟩
          refine ⟨_, rfl, _, rfl, D, V.ref (pickE xs i).1, rfl, ?_, ?_⟩
          · have q := DGet.k (k := Sum.inl (i : Int)) (s3 _ _ hD2)
            rw [(pick_val xs i him).1] at q
            have e : V.int (0 + (i : Int)) = kV (Sum.inl (i : Int)) := by
              rw [Int.zero_add]
              rfl
            rw [e]
            exact q
          · refine ⟨_, hE3, ?_, ?_, ?_⟩
            · rw [List.length_map, List.length_range]
              exact Nat.lt_of_lt_of_le (show i < 100 by omega) (by decide)
            · intro b' o' e'
              rw [upd_ne (ne_of_none e' hE)]
              exact s3 _ _ e'
            · rw [upd_same, List.range_succ, List.map_append]
              rfl
        · rintro H3 ⟨s3, hE3⟩
          refine ⟨E, _, rfl, .inl ⟨SqL.of hE3, fun t ht => ?_⟩⟩
          refine k _ t _ ((k2.same s3).new ht) (.tup upd_same ?_) fok fokT
          rw [Int.toNat_natCast, List.map_map]
          refine TpAll.map fun i hi => ?_
          have him : i ∈ xs.map (·.1) := by
            rw [ex]
            exact hos.mem_iff.mpr hi
          have h1 := (hx _ (pick_val xs i him).2).1
          exact tp_rc (by rw [upd_ne (ne_of_none (s3 _ _ h1) ht)]; exact s3 _ _ h1)
end

/-! ### a drawn writer whose recipes have few letters -/
def EntOkF (S B : Nat) (e : Option (Nat × List Rc)) : Prop := ∀ t fs, e = some (t, fs) → t < S ∧ FOk B fs ∧ ∀ r ∈ fs, TR r
def TightF (W : Wr) : Prop := ∀ row ∈ W.rules, ∀ e ∈ row, ∀ t fs, e = some (t, fs) → ∀ r ∈ fs, TR r
def spWriterF : Sp := fun vs H Q _ => ∃ (p c : Addr) (k sm bm : Nat), vs = [.ref p, .int k, .int sm, .int bm] ∧ Pen H p c ∧ k ≤ 40 ∧ 0 < sm ∧ sm ≤ 40 ∧ 0 < bm ∧ bm ≤ 40 ∧
  ∀ (W : Wr) (S B : Nat) (t : Addr) H', 1 ≤ S → S ≤ sm → 1 ≤ B → B ≤ bm → WOk k S B W → Tight W → TightF W → Kp p c H H' → Tp H' (.ref t) W.d → Q (.ref t) H'
section
variable {P : Program} {w : World} {K : PySem.W.Frag} {mg : Str → Option Value} {base : Heap} {f : Addr} {fd : FuncData}
theorem cal_writerF (F : C8.Def K mg "_law_writer" st_law_writer f fd) (b : Binds K fd ["pen", "count", "states", "buffers"] []) (B : BN2 mg) (Cd : Cal P w K mg base 2 "_law_draw" spDraw []) (Cp : Cal P w K mg base 4 "_law_piece" spPiece [])
    (Cf : Cal P w K mg base 6 "_law_fills" spFillsF []) (Ce : Cal P w K mg base 6 "_law_end" spEnd []) : Cal P w K mg base 7 "_law_writer" spWriterF [] := by
  refine cal0 F b .nil sc_writer (fun vs H Q E h => ?_) (fun cdv A outer s H vs Q E hr h => ?_)
  · obtain ⟨p, c, k, sm, bm, rfl, _⟩ := h
    rfl
  · obtain ⟨p, c, kk, sm, bm, rfl, hP, hk, s0, s1, b0, b1, k⟩ := h
    refine ⟨_, pss_cons (ps_asg (pe_tup (pa_cons (pe_op op_add pe_int (pe_c Cd hr (by decide) (by rfl) (pa_cons (pv 0) (pa_cons (pv 2) pa_nil)))) (pa_cons (pe_op op_add pe_int (pe_c Cd hr (by decide) (by rfl) (pa_cons (pv 0) (pa_cons (pv 3) pa_nil)))) pa_nil)))
        (pg_tup rfl (pgs_cons (pg_name (i := 2) sc_writer.nd rfl (Or.inl rfl)) (pgs_cons (pg_name (i := 3) sc_writer.nd rfl (Or.inr rfl)) pgs_nil))))
      (pss_cons (ps_set (i := 4) sc_writer.nd rfl (Or.inl rfl) (pe_callTy call_tuple_of (by rfl) B.tuple (by decide +kernel) (pa_cons (pe_lc (own := [("lap", 12)]) (g := gName 12) (tt := tYes) (by rfl) sc_writer.nd (pi_range1 rfl B.range (pa_cons (pv 3) pa_nil))
          (blkOk_by (own := [("lap", 12)]) (N := nWriter) (sc := fnScope st_law_writer) (by decide +kernel)) (fun _ _ _ _ _ => pg_name (i := 12) sc_writer.nd rfl (Or.inl rfl)) (fun _ _ _ _ _ => pts_nil)
          (fun _ _ _ _ _ => pe_ifExp (pt_cmpR op_eq (pe_c Cd hr (by decide) (by rfl) (pa_cons (pv 0) (pa_cons pe_int pa_nil))) pe_int (nomark _)) (pe_c Cp hr (by decide) (by rfl) (pa_cons (pv 0) (pa_cons pe_int pa_nil))) pe_str)) pa_nil)))
      (pss_cons (ps_set (i := 5) sc_writer.nd rfl (Or.inl rfl) (pe_lst pa_nil))
      (pss_cons (ps_for PassesOwn.never rfl (pi_range1 rfl B.range (pa_cons (pv 2) pa_nil)) (pg_name (i := 6) sc_writer.nd rfl (Or.inl rfl))
        (pss_cons (ps_set (i := 7) sc_writer.nd rfl (Or.inl rfl) (pe_lst pa_nil))
        (pss_cons (ps_for PassesOwn.never rfl (pi_range1 rfl B.range (pa_cons (pv 1) pa_nil)) (pg_name (i := 8) sc_writer.nd rfl (Or.inl rfl))
          (pss_cons (ps_par (i := 9) (j := 10) rfl sc_writer.nd rfl rfl (by decide) rfl rfl (pa_cons (pe_c Cd hr (by decide) (by rfl) (pa_cons (pv 0) (pa_cons (pv 2) pa_nil))) (pa_cons (pe_c Cf hr (by decide) (by rfl) (pa_cons (pv 0) (pa_cons (pv 3) pa_nil))) pa_nil)) (by rfl))
          (pss_one (ps_expr (pe_bm PySem.F.plainAttrs_list PySem.F.slot_list_append PySem.F.type_list_append mt_append (pv 7)
            (pa_cons (pe_ifExp (pt_cmpR op_gt (pe_c Cd hr (by decide) (by rfl) (pa_cons (pv 0) (pa_cons pe_int pa_nil))) pe_int (nomark _)) (pe_tup (pa_cons (pv 9) (pa_cons (pv 10) pa_nil))) pe_non) pa_nil))))))
        (pss_one (ps_expr (pe_bm PySem.F.plainAttrs_list PySem.F.slot_list_append PySem.F.type_list_append mt_append (pv 5) (pa_cons (pe_callTy call_tuple_of (by rfl) B.tuple (by decide +kernel) (pa_cons (pv 7) pa_nil)) pa_nil)))))))
      (pss_cons (ps_setLc (i := 11) (own := [("state", 6)]) (g := gName 6) (tt := tYes) (by rfl) sc_writer.nd rfl rfl (sw_true rfl rfl rfl (by decide +kernel)) (pi_range1 rfl B.range (pa_cons (pv 2) pa_nil))
          (blkOk_by (own := [("state", 6)]) (N := nWriter) (sc := fnScope st_law_writer) (by decide +kernel)) (fun _ _ _ _ _ => pg_name (i := 6) sc_writer.nd rfl (Or.inl rfl)) (fun _ _ _ _ _ => pts_nil)
          (fun _ _ _ _ _ => pe_c Ce hr (by decide) (by rfl) (pa_cons (pv 0) (pa_cons (pv 3) pa_nil))))
      (pss_one (ps_ret (pe_tup (pa_cons (pv 4) (pa_cons (pe_callTy call_tuple_of (by rfl) B.tuple (by decide +kernel) (pa_cons (pv 5) pa_nil)) (pa_cons (pe_callTy call_tuple_of (by rfl) B.tuple (by decide +kernel) (pa_cons (pv 11) pa_nil)) pa_nil)))))))))), ?_⟩
    refine ⟨_, rfl, _, rfl, p, c, sm, rfl, hP, by omega, log_small (by omega) (by omega), fun d H1 d0 d1 k1 => ⟨_, _, rfl, rfl, _, rfl, _, rfl, p, c, bm, rfl, k1.pen, by omega, log_small (by omega) (by omega), fun g H2 g0 g1 k2 => ⟨_, _, rfl, rfl, ?_⟩⟩⟩
    obtain ⟨S, hS⟩ : ∃ S : Nat, 1 + d = (S : Int) := ⟨(1 + d).toNat, by omega⟩
    obtain ⟨Bf, hB⟩ : ∃ Bf : Nat, 1 + g = (Bf : Int) := ⟨(1 + g).toNat, by omega⟩
    have kA := k1.trans k2
    refine ⟨(by show 2 ≤ sizeLine; decide), fun t0 ht0 => ⟨t0, _, rfl, SqT.of upd_same, rfl, .int (S : Int), [.int (Bf : Int)], (by show [V.int (1 + d), V.int (1 + g)] = [V.int (S : Int), V.int (Bf : Int)]; rw [hS, hB]), .int (Bf : Int), [], rfl, rfl, ?_⟩⟩
    have kB := kA.new (o := .tup [.int (1 + d), .int (1 + g)]) ht0
    clear ht0
    generalize upd H2 t0 (.tup [.int (1 + d), .int (1 + g)]) = H3 at kB ⊢
    -- the begins
    refine ⟨_, rfl, Bf, rfl, by omega, by omega, fun D hD => ?_⟩
    refine lc_range (lo := 0) (n := (Bf : Int).toNat) (fun i H' => Kp p c H H' ∧ H D = none ∧ ∃ zs : List Str, H' D = some (.lst (zs.map V.str)) ∧ zs.length = i ∧ ∀ z ∈ zs, Tx 2 z) ⟨kB.new hD, kB.free hD, [], upd_same, rfl, fun z hz => by cases hz⟩ ?_ ?_
    · rintro i H4 hi ⟨k4, D0, zs, hD4, hl, hz⟩
      refine ⟨rfl, ?_⟩
      have nDp := hP.ne D0
      have done : ∀ (z : Str) (H5 : Hp), Tx 2 z → Kp p c H4 H5 → ∃ acc, H5 D = some (.lst acc) ∧ acc.length < sizeLine ∧ Kp p c H (upd H5 D (.lst (acc ++ [.str z]))) ∧ H D = none ∧ ∃ zs : List Str, upd H5 D (.lst (acc ++ [.str z])) D = some (.lst (zs.map V.str)) ∧ zs.length = i + 1 ∧ ∀ z ∈ zs, Tx 2 z := by
        intro z H5 hz5 k5
        refine ⟨_, k5.but _ _ nDp hD4, ?_, (k4.trans k5).put hP D0, D0, zs ++ [z], ?_, ?_, ?_⟩
        · rw [List.length_map]
          exact Nat.lt_of_lt_of_le (show zs.length < 1000 by omega) (by decide)
        · rw [upd_same, List.map_append]
          rfl
        · rw [List.length_append, hl]
          rfl
        · intro y hy
          rcases List.mem_append.mp hy with hy | hy
          · exact hz y hy
          · obtain rfl := List.mem_singleton.mp hy
            exact hz5
      refine ⟨_, rfl, p, c, 4, rfl, k4.pen, by decide, by decide, fun d' H5 d0' d1' k5 => ⟨rfl, _, rfl, ?_⟩⟩
      refine ite2 (fun _ => ?_) (fun _ => ?_)
      · exact ⟨_, rfl, p, c, 2, rfl, k5.pen, by decide, by decide, fun z H6 _ hz6 k6 => done z H6 hz6 (k5.trans k6)⟩
      · exact done "" H5 ⟨by decide, fun c hc => by cases hc⟩ k5
    rintro H4 ⟨k4, D0, zs, hD4, hzl, hz⟩
    refine ⟨D, _, rfl, .inl ⟨SqL.of hD4, fun tb htb => ?_⟩⟩
    have tpb : Tp (upd H4 tb (.tup (zs.map V.str))) (.ref tb) (.tuple (zs.map .str)) := .tup upd_same (TpAll.map fun z _ => .str z)
    have k5 := k4.new (o := .tup (zs.map V.str)) htb
    clear htb hD4
    generalize upd H4 tb (.tup (zs.map V.str)) = H5 at tpb k5 ⊢
    refine ⟨Nat.zero_le _, fun R hR => ?_⟩
    have R0 : H R = none := k5.free hR
    have nRp := hP.ne R0
    -- the rows
    refine ⟨_, rfl, S, rfl, by omega, by omega, for_range (n := (S : Int).toNat) (fun i σ H' => (∃ v6 v7 v8 v9 v10 : Option V, σ = [some (.ref p), some (.int kk), some (.int S), some (.int Bf), some (.ref tb), some (.ref R), v6, v7, v8, v9, v10, none, none]) ∧
      Kp p c H H' ∧ Tp H' (.ref tb) (.tuple (zs.map .str)) ∧ ∃ rows : List (List (Option (Nat × List Rc))), LAt H' R (rows.map rowD) ∧ rows.length = i ∧ ∀ row ∈ rows, row.length = kk ∧ ∀ e ∈ row, EntOkF S Bf e)
      ⟨⟨_, _, _, _, _, rfl⟩, k5.new hR, tpb.mono (tk_new hR), [], ⟨[], upd_same, .nil⟩, rfl, fun row hrow => by cases hrow⟩ ?_ ?_⟩
    · rintro i σ H6 hi ⟨⟨v6, v7, v8, v9, v10, rfl⟩, k6, tb6, rows, hR6, hrl, hrow⟩
      refine ⟨Nat.zero_le _, fun w' hw => ?_⟩
      have w0 : H w' = none := k6.free hw
      have nwp := hP.ne w0
      have nRw : R ≠ w' := by
        obtain ⟨vs, h1, _⟩ := hR6
        exact ne_of_none h1 hw
      refine ⟨_, rfl, kk, rfl, by omega, by omega, for_range (n := (kk : Int).toNat) (fun j σ H' => (∃ v8 v9 v10 : Option V, σ = [some (.ref p), some (.int kk), some (.int S), some (.int Bf), some (.ref tb), some (.ref R), some (.int (0 + (i : Int))), some (.ref w'), v8, v9, v10, none, none]) ∧
        Kp p c H H' ∧ Tp H' (.ref tb) (.tuple (zs.map .str)) ∧ LAt H' R (rows.map rowD) ∧ ∃ es : List (Option (Nat × List Rc)), LAt H' w' (es.map entD) ∧ es.length = j ∧ ∀ e ∈ es, EntOkF S Bf e)
        ⟨⟨_, _, _, rfl⟩, k6.new hw, tb6.mono (tk_new hw), hR6.same (same_new hw), [], ⟨[], upd_same, .nil⟩, rfl, fun e he => by cases he⟩ ?_ ?_⟩
      · rintro j σ H7 hj ⟨⟨v8, v9, v10, rfl⟩, k7, tb7, hR7, es, hw7, hel, hes⟩
        refine ⟨_, rfl, _, rfl, p, c, S, rfl, k7.pen, by omega, log_small (by omega) (by omega), fun tg H8 t0 t1 k8 => ?_⟩
        refine ⟨_, rfl, _, rfl, p, c, Bf, rfl, k8.pen, by omega, fun fs ft H9 k9 tf hf hfT => ⟨_, _, rfl, ?_⟩⟩
        have k10 := k7.trans (k8.trans k9)
        have k79 := k8.trans k9
        have tb9 := tb7.mono (k79.tk k7.pen)
        have hR9 := hR7.kp nRp k7.pen k79
        obtain ⟨vs, hv9, ha9⟩ := hw7.kp nwp k7.pen k79
        refine ⟨_, rfl, .inl ⟨rfl, _, SqL.of hv9⟩, _, rfl, p, c, 6, rfl, k9.pen, by decide, by decide, fun d6 H10 _ _ k11 => ⟨_, _, rfl, rfl, _, rfl, ?_⟩⟩
        have tb10 := tb9.mono (k11.tk k9.pen)
        have hR10 := hR9.kp nRp k9.pen k11
        have hv10 := k11.but _ _ nwp hv9
        have ha10 := ha9.mono (k11.tk k9.pen)
        have tf10 := tf.mono (k11.tk k9.pen)
        have k12 := k10.trans k11
        have hlen : vs.length < sizeLine := by
          rw [ha10.len, List.length_map]
          exact Nat.lt_of_lt_of_le (show es.length < 1000 by omega) (by decide)
        refine ite2 (fun _ => ?_) (fun _ => ?_)
        · refine ⟨_, rfl, _, rfl, (by show 2 ≤ sizeLine; decide), fun et het => ?_⟩
          have he10 : upd H10 et (.tup [.int tg, .ref ft]) w' = some (.lst vs) := by
            rw [upd_ne (ne_of_none hv10 het)]
            exact hv10
          refine ⟨w', vs, _, rfl, rfl, he10, hlen, ⟨_, _, _, rfl⟩, (k12.new het).put hP w0, (tb10.mono (tk_new het)).mono (tk_lst he10), (hR10.same (same_new het)).put he10 nRw, es ++ [some (tg.toNat, fs)], ?_, ?_, ?_⟩
          · rw [List.map_append]
            refine LAt.push he10 (ha10.mono (tk_new het)) (.tup upd_same (.cons ?_ (.cons (tf10.mono (tk_new het)) .nil)))
            rw [Int.toNat_of_nonneg t0]
            exact .int tg
          · rw [List.length_append, hel]
            rfl
          · intro e hm
            rcases List.mem_append.mp hm with hm | hm
            · exact hes e hm
            · obtain rfl := List.mem_singleton.mp hm
              intro t' fs' he
              cases he
              exact ⟨by omega, hf, hfT⟩
        · refine ⟨w', vs, _, rfl, rfl, hv10, hlen, ⟨_, _, _, rfl⟩, k12.put hP w0, tb10.mono (tk_lst hv10), hR10.put hv10 nRw, es ++ [none], ?_, ?_, ?_⟩
          · rw [List.map_append]
            exact LAt.push hv10 ha10 .non
          · rw [List.length_append, hel]
            rfl
          · intro e hm
            rcases List.mem_append.mp hm with hm | hm
            · exact hes e hm
            · obtain rfl := List.mem_singleton.mp hm
              intro t' fs' he
              cases he
      · rintro σ H7 ⟨⟨v8, v9, v10, rfl⟩, k7, tb7, hR7, es, hw7, hel, hes⟩
        obtain ⟨vs, hv7, ha7⟩ := hw7
        refine ⟨_, rfl, .inl ⟨rfl, _, SqL.of (show H7 R = _ from hR7.choose_spec.1)⟩, _, rfl, w', vs, rfl, .inl ⟨SqL.of hv7, fun rt hrt => ?_⟩⟩
        obtain ⟨us, hu7, hb7⟩ := hR7.same (same_new (o := .tup vs) hrt)
        refine ⟨R, us, _, rfl, rfl, hu7, ?_, ⟨_, _, _, _, _, rfl⟩, (k7.new hrt).put hP R0, (tb7.mono (tk_new hrt)).mono (tk_lst hu7), rows ++ [es], ?_, ?_, ?_⟩
        · rw [hb7.len, List.length_map]
          exact Nat.lt_of_lt_of_le (show rows.length < 1000 by omega) (by decide)
        · rw [List.map_append]
          exact LAt.push hu7 hb7 (.tup upd_same (ha7.mono (tk_new hrt)))
        · rw [List.length_append, hrl]
          rfl
        · intro row hm
          rcases List.mem_append.mp hm with hm | hm
          · exact hrow row hm
          · obtain rfl := List.mem_singleton.mp hm
            exact ⟨by omega, hes⟩
    rintro σ H6 ⟨⟨v6, v7, v8, v9, v10, rfl⟩, k6, tb6, rows, hR6, hrl, hrow⟩
    -- the ends
    refine ⟨_, rfl, S, rfl, by omega, by omega, fun D2 hD2 => ?_⟩
    have nRD : R ≠ D2 := by
      obtain ⟨vs, h1, _⟩ := hR6
      exact ne_of_none h1 hD2
    refine lc_range (lo := 0) (n := (S : Int).toNat) (fun i H' => Kp p c H H' ∧ H D2 = none ∧ Tp H' (.ref tb) (.tuple (zs.map .str)) ∧ LAt H' R (rows.map rowD) ∧ ∃ es : List (Option Rc), LAt H' D2 (es.map endD) ∧ es.length = i ∧ ∀ e ∈ es, ∀ q, e = some q → EOk Bf q ∧ ROk q)
      ⟨k6.new hD2, k6.free hD2, tb6.mono (tk_new hD2), hR6.same (same_new hD2), [], ⟨[], upd_same, .nil⟩, rfl, fun e he => by cases he⟩ ?_ ?_
    · rintro i H7 hi ⟨k7, D20, tb7, hR7, es, hw7, hel, hes⟩
      refine ⟨rfl, ?_⟩
      have nD2p := hP.ne D20
      refine ⟨_, rfl, _, rfl, p, c, Bf, rfl, k7.pen, by omega, fun r x H8 k8 tx hx => ?_⟩
      obtain ⟨vs, hv8, ha8⟩ := hw7.kp nD2p k7.pen k8
      refine ⟨vs, hv8, ?_, (k7.trans k8).put hP D20, D20, (tb7.mono (k8.tk k7.pen)).mono (tk_lst hv8), (hR7.kp nRp k7.pen k8).put hv8 nRD, es ++ [r], ?_, ?_, ?_⟩
      · rw [ha8.len, List.length_map]
        exact Nat.lt_of_lt_of_le (show es.length < 1000 by omega) (by decide)
      · rw [List.map_append]
        exact LAt.push hv8 ha8 tx
      · rw [List.length_append, hel]
        rfl
      · intro e hm
        rcases List.mem_append.mp hm with hm | hm
        · exact hes e hm
        · obtain rfl := List.mem_singleton.mp hm
          exact hx
    · rintro H7 ⟨k7, D20, tb7, hR7, es, hw7, hel, hes⟩
      obtain ⟨us, hu7, hb7⟩ := hR7
      obtain ⟨vs, hv7, ha7⟩ := hw7
      refine ⟨_, rfl, _, rfl, R, us, rfl, .inl ⟨SqL.of hu7, fun ra hra => ?_⟩⟩
      refine ⟨_, rfl, D2, vs, rfl, .inl ⟨SqL.of (by rw [upd_ne (ne_of_none hv7 hra)]; exact hv7), fun ea hea => ?_⟩⟩
      refine ⟨(by show 3 ≤ sizeLine; decide), fun t ht => ?_⟩
      have s1' : TK H7 (upd (upd (upd H7 ra (.tup us)) ea (.tup vs)) t (.tup [.ref tb, .ref ra, .ref ea])) := ((tk_new hra).trans (tk_new hea)).trans (tk_new ht)
      refine k ⟨zs, rows, es⟩ S Bf t _ (by omega) (by omega) (by omega) (by omega) ⟨by show zs.length = Bf; omega, hz, by show rows.length = S; omega, (fun row hr => ⟨(hrow row hr).1, fun e he t fs q => ⟨((hrow row hr).2 e he t fs q).1, ((hrow row hr).2 e he t fs q).2.1⟩⟩), by show es.length = S; omega, fun e he q hq => (hes e he q hq).1⟩ (fun e he q hq => (hes e he q hq).2) (fun row hr e he t fs q => ((hrow row hr).2 e he t fs q).2.2) (((k7.new hra).new hea).new ht) (.tup upd_same (.cons (tb7.mono s1') (.cons (.tup ?_ (hb7.mono s1')) (.cons (.tup ?_ (ha7.mono s1')) .nil))))
      · exact (tk_new ht) _ _ ((tk_new hea) _ _ upd_same)
      · exact (tk_new ht) _ _ upd_same
end

/-! ### parts that alternate: a recipe put together has few -/
def lastS (f : Rc) : Nat := match f.getLast? with
  | some (.s _) => 1
  | _ => 0
theorem lastS_le (f : Rc) : lastS f ≤ 1 := by
  unfold lastS
  split <;> decide
theorem lastS_s (g : Rc) (z : Str) : lastS (g ++ [.s z]) = 1 := by
  unfold lastS
  rw [List.getLast?_concat]
theorem lastS_b (g : Rc) (i : Nat) : lastS (g ++ [.b i]) = 0 := by
  unfold lastS
  rw [List.getLast?_concat]
/-- no two pieces side by side, so not many parts -/
def Alt (f : Rc) : Prop := f.length ≤ 2 * (bufs f).length + lastS f
theorem alt_step {f : Rc} (q : Pt) (h : Alt f) : Alt (nstep f q) := by
  cases q with
  | b i =>
    show Alt (f ++ [.b i])
    unfold Alt at *
    rw [lastS_b, bufs_app, bufs_one, List.length_append, List.length_append]
    show f.length + 1 ≤ 2 * ((bufs f).length + 1) + 0
    have := lastS_le f
    omega
  | s z =>
    rcases List.eq_nil_or_concat f with rfl | ⟨g, l, rfl⟩
    · rw [nstep_first]
      by_cases e : z = ""
      · rw [if_pos e]
        exact h
      · rw [if_neg e]
        show 1 ≤ 2 * (bufs [Pt.s z]).length + 1
        omega
    · rw [List.concat_eq_append] at *
      cases l with
      | s y =>
        rw [nstep_glue]
        unfold Alt at *
        rw [lastS_s, bufs_app, bufs_one, List.length_append] at *
        exact h
      | b i =>
        rw [nstep_behind]
        by_cases e : z = ""
        · rw [if_pos e]
          exact h
        · rw [if_neg e]
          unfold Alt at *
          rw [lastS_s, bufs_app, bufs_one, List.length_append]
          rw [lastS_b] at h
          show (g ++ [Pt.b i]).length + 1 ≤ 2 * (bufs (g ++ [Pt.b i]) ++ []).length + 1
          rw [List.append_nil]
          omega
theorem alt_fold : ∀ (ps f : Rc), Alt f → Alt (ps.foldl nstep f)
  | [], _, h => h
  | q :: r, f, h => alt_fold r (nstep f q) (alt_step q h)
theorem alt_normal (ps : Rc) : Alt (normal ps) := alt_fold ps [] (Nat.zero_le _)

/-! ### writers with greater recipes -/
structure ROkB (r : Rc) : Prop where
  lt : lets r ≤ 1000
  low : lowR r
  len : r.length ≤ 1000
structure FOkB (n : Nat) (fs : List Rc) : Prop where
  len : fs.length = n
  nd : (fs.flatMap bufs).Nodup
  lt : ∀ i ∈ fs.flatMap bufs, i < n
  each : ∀ r ∈ fs, ROkB r
structure EOkB (n : Nat) (r : Rc) : Prop where
  nd : (bufs r).Nodup
  lt : ∀ i ∈ bufs r, i < n
  ok : ROkB r
def EntOkB (S B : Nat) (e : Option (Nat × List Rc)) : Prop := ∀ t fs, e = some (t, fs) → t < S ∧ FOkB B fs
structure WOkB (k S B : Nat) (W : Wr) : Prop where
  b1 : W.begins.length = B
  b2 : ∀ z ∈ W.begins, Tx 2 z
  r1 : W.rules.length = S
  r2 : ∀ row ∈ W.rules, row.length = k ∧ ∀ e ∈ row, EntOkB S B e
  e1 : W.ends.length = S
  e2 : ∀ e ∈ W.ends, ∀ q, e = some q → EOkB B q
theorem ROk.big {r : Rc} (h : ROk r) : ROkB r := ⟨by have := h.lt; omega, h.low, by have := h.len; omega⟩
theorem ROkE.big {r : Rc} (h : ROkE r) : ROkB r := ⟨by have := h.lt; omega, h.low, by have := h.len; omega⟩
theorem FOk.big {n : Nat} {fs : List Rc} (h : FOk n fs) : FOkB n fs := ⟨h.len, h.nd, h.lt, fun r hr => (h.each r hr).big⟩
theorem WOk.big {k S B : Nat} {W : Wr} (h : WOk k S B W) : WOkB k S B W := ⟨h.b1, h.b2, h.r1, fun row hrow => ⟨(h.r2 row hrow).1, fun e he t fs q => ⟨((h.r2 row hrow).2 e he t fs q).1, ((h.r2 row hrow).2 e he t fs q).2.big⟩⟩, h.e1, fun e he q hq => ⟨(h.e2 e he q hq).nd, (h.e2 e he q hq).lt, (h.e2 e he q hq).ok.big⟩⟩

/-! ### repr of data -/
theorem str_len (s : String) : (Str.ofString s).length = s.length := ofString_length s
/-- data that may be shown: no deeper than k, its weight at most n -/
structure Neat (k n : Nat) (d : PyData) : Prop where
  lay : d.canLay0 = true
  sh : d.showable = true
  shorts : d.intsShort 13 = true
  dep : d.depth ≤ k
  wt : d.weight ≤ n
structure NeatAll (k n : Nat) (ds : List PyData) : Prop where
  lay : PyData.canLayAll0 ds = true
  sh : PyData.showableAll ds = true
  shorts : PyData.intsShortAll 13 ds = true
  dep : PyData.depthAll ds ≤ k
  wt : PyData.weightAll ds ≤ n
theorem Neat.le {k n k' n' : Nat} {d : PyData} (h : Neat k n d) (hk : k ≤ k') (hn : n ≤ n') : Neat k' n' d := ⟨h.lay, h.sh, h.shorts, Nat.le_trans h.dep hk, Nat.le_trans h.wt hn⟩
theorem NeatAll.le {k n k' n' : Nat} {d : List PyData} (h : NeatAll k n d) (hk : k ≤ k') (hn : n ≤ n') : NeatAll k' n' d := ⟨h.lay, h.sh, h.shorts, Nat.le_trans h.dep hk, Nat.le_trans h.wt hn⟩
theorem neat_none : Neat 0 0 .none := ⟨by simp only [PyData.canLay0], by simp only [PyData.showable], by simp only [PyData.intsShort], by simp only [PyData.depth, Nat.le_refl], by simp only [PyData.weight, Nat.le_refl]⟩
theorem neat_bool (b : Bool) : Neat 0 0 (.bool b) := ⟨by simp only [PyData.canLay0], by simp only [PyData.showable], by simp only [PyData.intsShort], by simp only [PyData.depth, Nat.le_refl], by simp only [PyData.weight, Nat.le_refl]⟩
theorem neat_str {z : Str} (h : PyData.strOk z = true) : Neat 0 z.length (.str z) := ⟨by simp only [PyData.canLay0, h], by simp only [PyData.showable], by simp only [PyData.intsShort], by simp only [PyData.depth, Nat.le_refl], by simp only [PyData.weight]; exact Nat.le_refl _⟩
theorem neat_int {i : Int} (h : i.natAbs < 10 ^ 9) : Neat 0 40 (.int i) := by
  have h2 : i.natAbs.log2 < 30 := by
    by_cases h0 : i.natAbs = 0
    · rw [h0]
      decide
    · rw [Nat.log2_lt h0]
      omega
  refine ⟨by simp only [PyData.canLay0], ?_, ?_, by simp only [PyData.depth, Nat.le_refl], ?_⟩
  · simp only [PyData.showable, decide_eq_true_eq]
    omega
  · simp only [PyData.intsShort, PyData.shown, decide_eq_true_eq]
    have q := int_text_length_le10 (a := i) (k := 12) (by decide) (Nat.lt_trans h (by decide))
    exact decide_eq_true (Nat.le_trans (Nat.le_of_eq (str_len _)) q)
  · simp only [PyData.weight]
    split <;> omega
theorem neatAll_nil {k : Nat} : NeatAll k 0 [] := ⟨by simp only [PyData.canLayAll0], by simp only [PyData.showableAll], by simp only [PyData.intsShortAll], by simp only [PyData.depthAll, Nat.zero_le], by simp only [PyData.weightAll, Nat.le_refl]⟩
theorem NeatAll.cons {k a b : Nat} {d : PyData} {ds : List PyData} (h : Neat k a d) (hs : NeatAll k b ds) : NeatAll k (a + 1 + b) (d :: ds) :=
  ⟨by simp only [PyData.canLayAll0, h.lay, hs.lay, Bool.and_self], by simp only [PyData.showableAll, h.sh, hs.sh, Bool.and_self], by simp only [PyData.intsShortAll, h.shorts, hs.shorts, Bool.and_self],
    by simp only [PyData.depthAll]; exact Nat.max_le.mpr ⟨h.dep, hs.dep⟩, by simp only [PyData.weightAll]; exact Nat.add_le_add (Nat.add_le_add_right h.wt 1) hs.wt⟩
theorem NeatAll.tup {k n : Nat} {ds : List PyData} (h : NeatAll k n ds) : Neat (k + 1) n (.tuple ds) :=
  ⟨by simp only [PyData.canLay0, h.lay], by simp only [PyData.showable, h.sh], by simp only [PyData.intsShort, h.shorts], by simp only [PyData.depth]; exact Nat.succ_le_succ h.dep, by simp only [PyData.weight]; exact h.wt⟩
theorem NeatAll.lst {k n : Nat} {ds : List PyData} (h : NeatAll k n ds) : Neat (k + 1) n (.list ds) :=
  ⟨by simp only [PyData.canLay0, h.lay], by simp only [PyData.showable, h.sh], by simp only [PyData.intsShort, h.shorts], by simp only [PyData.depth]; exact Nat.succ_le_succ h.dep, by simp only [PyData.weight]; exact h.wt⟩
theorem neatAll_map {α : Type} {k a : Nat} {g : α → PyData} : ∀ {l : List α}, (∀ x ∈ l, Neat k a (g x)) → NeatAll k (l.length * (a + 1)) (l.map g)
  | [], _ => by
    rw [List.length_nil, Nat.zero_mul]
    exact neatAll_nil
  | x :: r, h => by
    have q := NeatAll.cons (h x List.mem_cons_self) (neatAll_map (l := r) fun y hy => h y (List.mem_cons_of_mem _ hy))
    rw [List.map_cons, List.length_cons, Nat.succ_mul]
    exact q.le (Nat.le_refl _) (by omega)
theorem Neat.fits {k n : Nat} {d : PyData} (h : Neat k n d) (hk : k ≤ 50) (hn : n ≤ 1000000) : d.shown.length ≤ sizeLine := by
  have e : (2 : Nat) ^ 20 = 1048576 := by decide
  have hl : PyData.layable0 d = true := by
    show (PyData.canLay0 d && decide (PyData.depth d ≤ 64) && decide (PyData.weight d ≤ 2 ^ 20)) = true
    have d1 := h.dep
    have d2 := h.wt
    rw [h.lay, decide_eq_true (show d.depth ≤ 64 by omega), decide_eq_true (show d.weight ≤ 2 ^ 20 by omega)]
    rfl
  exact Nat.le_trans (PyProof.Rows.shown_le13 hl h.shorts) (by decide)

/-- repr(x), x some data -/
def rRepr (K : PySem.W.Frag) : List V → Hp → VK → Prop := fun xs H Q => ∃ (x : V) (d : PyData) (k n : Nat), xs = [x] ∧ Dp K H x d ∧ Neat k n d ∧ k ≤ 50 ∧ n ≤ 1000000 ∧ Q (.str d.shown) H
theorem call_repr {X : Cx} (hg : X.A.guards = some []) (hu : X.A.units + 64 < cLine) : CallR X (.builtin "repr") (rRepr X.K) := by
  intro pins s σ H xs us Q I rel h
  obtain ⟨x, d, k, n, rfl, hd, hn, hk, hw, q⟩ := h
  obtain ⟨u, rfl, ru⟩ := vals1 rel
  obtain ⟨as, rr⟩ := Dp.reads I d x u hd ru
  have fits := hn.fits hk hw
  cases hd with
  | non =>
    cases ru
    exact PySem.P.repr_of_none ⟨.str _, H, I.tok _, ⟨_, rfl⟩, q⟩
  | bl b =>
    cases ru
    exact PySem.P.repr_of_bool ⟨.str _, H, I.tok _, ⟨_, rfl⟩, q⟩
  | int i =>
    obtain ⟨t, rfl⟩ := ru
    exact PySem.P.repr_of_int (by have := hn.sh; simpa only [PyData.showable, decide_eq_true_eq] using this) ⟨.str _, H, I.tok _, ⟨_, rfl⟩, q⟩
  | str z =>
    obtain ⟨t, rfl⟩ := ru
    exact PySem.P.repr_of_str ⟨.str _, H, I.tok _, ⟨_, rfl⟩, q⟩ fits
  | lst _ _ =>
    cases ru
    have dd := hn.dep
    exact repr_of_reads' rr hn.sh (PyData.noDict_hsm (PyData.hasDict_of_canLay _ hn.lay)) hg (by omega) (fun _ _ e => e) (fun h' u tk kk => ⟨.str _, H, I.kept kk, ⟨_, rfl⟩, q⟩) fits
  | tup _ _ =>
    cases ru
    have dd := hn.dep
    exact repr_of_reads' rr hn.sh (PyData.noDict_hsm (PyData.hasDict_of_canLay _ hn.lay)) hg (by omega) (fun _ _ e => e) (fun h' u tk kk => ⟨.str _, H, I.kept kk, ⟨_, rfl⟩, q⟩) fits

/-! ### a def that is called where no container is being shown -/
structure FnG (P : Program) (w : World) (K : PySem.W.Frag) (mg : Str → Option Value) (base : Heap) (k : Nat) (f : Addr) (fd : FuncData) (ps : List Str) (sp : Sp) : Prop where
  many : ∀ vs H Q E, sp vs H Q E → vs.length = ps.length
  goes : ∀ (A : Around) (outer : List Env) (s : Shared) (H : Hp) (args : Args) (us : List Value) (vs : List V) (Q : VK) (E : XK), A.guards = some [] → Room k A → Env0 P w K mg base A outer s H → BindsTo s fd args (ps.zip us) → Vals vs us →
    sp vs H Q E → codeAny (model P w) A (.call (.ref f) args) (CR CX0 outer P w H s Q E) s
section
open PySem.Spec PyProof.Rows
variable {P : Program} {w : World} {K : PySem.W.Frag} {mg : Str → Option Value} {base : Heap}
/-- by its body -/
theorem fnG_by {x qual : Str} {st : Stmt} {f : Addr} {fd : FuncData} {N ps : List Str} {k : Nat} {sp : Sp} (F : C8.Fun K x qual st f fd) (sc : FnScope N ps (fnScope st)) (many : ∀ vs H Q E, sp vs H Q E → vs.length = ps.length)
    (body : ∀ (cdv : Value) (A : Around) (outer : List Env) (s : Shared) (H : Hp) (vs : List V) (Q : VK) (E : XK), A.guards = some [] → Room k (A.deeper (envOfC qual (fnScope st) s.heap.objs.size f cdv)) → sp vs H Q E →
      ∃ t, PSs (cxOf CX0 P w K mg base N qual (fnScope st) f cdv A outer s H E).nox (fnBody st) t ∧ t { nx := fun _ H1 => Q .non H1, rt := Q } (start N vs) H) : FnG P w K mg base (k + 1) f fd ps sp := by
  obtain ⟨oc, od, dV, kV, doc, pm, an, cdv, ct, osl, rfl, atF, code⟩ := F.ex
  constructor
  · exact many
  · intro A outer s H args us vs Q E gu room e0 binds rel asked
    have n := many _ _ _ _ asked
    have kept : ∀ b o, base.get? b = some o → s.heap.get? b = some o := fun b o e => (e0.bs b o e).1
    have inK := e0.mod.kin.keeps kept
    have local' : ∀ y ∈ ps.zip us, (fnScope st).names.lookup y.1 = some .local ∨ ((fnScope st).names.lookup y.1 = some .cell ∧ ((cellsFrom (s.heap.objs.size + 1) (fnScope st).names []).lookup y.1).isSome = true) := by
      rintro ⟨nm, v⟩ mem
      exact (sc.par nm (List.of_mem_zip mem).1).imp id fun c => ⟨c, PySem.W.cellsFrom_some _ _ _ (.inl c)⟩
    refine codeAny_call_function room.depth (inK _ _ atF) rfl sc.co sc.gen rfl (PySem.W.codeRec_of inK code) (binds _ _ _ _ (wpAny_newFunctionEnv_cells sc.kind local' fun env eqE s1 made => ?_))
    cases eqE
    refine ⟨(e0.mod.nolimit.keeps kept).keeps made.toInCall.keep, codeAny_func ?_⟩
    obtain ⟨t, hold, ask⟩ := body cdv A outer s H vs Q E gu (room.deeper _) asked
    refine wpAny_mono (hold.nox.run [] s1 (start N vs) H _ (inv_start sc room.hd e0 n rel made) ask) (fun fl s2 got => ?_) fun _ _ z => z
    cases fl
    case ret u =>
      obtain ⟨v, _, H1, J, rv, q⟩ := got
      exact ⟨v, H1, J.os, J.bare, J.base, J.hok, rv, q⟩
    case next =>
      obtain ⟨_, H1, J, q⟩ := got
      exact ⟨V.non, H1, J.os, J.bare, J.base, J.hok, rfl, q⟩
    case brk =>
      obtain ⟨_, _, _, q⟩ := got
      exact q.elim
    case cont =>
      obtain ⟨_, _, _, q⟩ := got
      exact q.elim
end

/-! ### the end: the law's own def, called with the script -/
section
open PySem.Spec PyProof.Rows
theorem are_vals : ∀ {us : List Value} {ns : List Int}, IntsAre us ns → Vals (ns.map V.int) us
  | _, _, .nil => .nil
  | _, _, .cons _ t r => .cons ⟨t, rfl⟩ (are_vals r)
theorem lawG_end {P : Program} {w : World} {K : PySem.W.Frag} {mg mb : Str → Option Value} {k : Nat} {fa a : Addr} {fd : FuncData} {x : Str} {sp : Sp} {s₁ : Shared} {us : List Value} {ns : List Int}
    (inK : K.In s₁.heap) (gl : s₁.heap.Ns mainGlobals mg) (bl : s₁.heap.Ns builtinsNs mb) (boot : ∀ y : Str, y ≠ "__name__" → mb y = bootBuiltins y) (lim : s₁.heap.NoLimit) (gens : s₁.gens = #[])
    (at_a : s₁.heap.get? a = some { cls := .type "list", data := .seq us.toArray }) (are : IntsAre us ns) (few : ns.length ≤ sizeLine) (room : Room k callerA)
    (F : ∀ base : Heap, K.In base → base.Ns mainGlobals mg → FnG P w K mg base k fa fd [x] sp) (binds : ∀ (s : Shared) (u : Value), BindsTo s fd ⟨[u], []⟩ [(x, u)])
    (asked : ∀ H : Hp, SqL K H a (ns.map V.int) → sp [.ref a] H (fun v _ => v = .bl true) fun _ _ _ => False) :
    codeAny (model P w) callerA (.call (.ref fa) ⟨[.ref a], []⟩) (fun r s' => r = .ok (.ret (.bool true)) ∧ OldK s₁.heap s'.heap ∧ s'.os = s₁.os ∧ AllBare s'.gens) s₁ := by
  have rel := are_vals are
  have n_us := are.length
  suffices core : ∀ H : Hp, (∀ b u, H b = some u → b = a ∧ u = .frz { cls := .type "list", data := .seq us.toArray } (.lst (ns.map V.int)) ∧ K.lookup a = none) → SqL K H a (ns.map V.int) →
      codeAny (model P w) callerA (.call (.ref fa) ⟨[.ref a], []⟩) (fun r s' => r = .ok (.ret (.bool true)) ∧ OldK s₁.heap s'.heap ∧ s'.os = s₁.os ∧ AllBare s'.gens) s₁ by
    cases inF : K.lookup a with
    | some o =>
      have same := inK a o inF
      rw [at_a] at same
      cases same
      refine core (fun _ => none) (fun b u z => by cases z) (.inr ⟨_, us.toArray, _, inF, rfl, rfl, rfl, ?_, ?_⟩)
      · rw [List.size_toArray, n_us]
        exact few
      · rw [List.toList_toArray]
        exact rel
    | none =>
      refine core (fun b => if b = a then some (.frz { cls := .type "list", data := .seq us.toArray } (.lst (ns.map V.int))) else none) (fun b u z => ?_) (.inl (.inr ⟨_, if_pos rfl⟩))
      by_cases e : b = a
      · refine ⟨e, ?_, inF⟩
        have z' : (if b = a then some (HO.frz { cls := .type "list", data := .seq us.toArray } (.lst (ns.map V.int))) else none) = some u := z
        rw [if_pos e] at z'
        exact (Option.some.inj z').symm
      · have z' : (if b = a then some (HO.frz { cls := .type "list", data := .seq us.toArray } (.lst (ns.map V.int))) else none) = some u := z
        rw [if_neg e] at z'
        cases z'
  intro H only sq
  have keepK : K.In (hidT s₁.heap H) := fun b o e => hidT_get (inK b o e) (by
    cases q : H b with
    | none => rfl
    | some u =>
      obtain ⟨e1, _, e2⟩ := only b u q
      rw [e1, e2] at e
      cases e)
  have keepN : ∀ {b : Addr} {m : Str → Option Value}, s₁.heap.Ns b m → (hidT s₁.heap H).Ns b m := by
    rintro b m ⟨o, es, ep, e, d, r⟩
    refine ⟨o, es, ep, hidT_get e ?_, d, r⟩
    cases q : H b with
    | none => rfl
    | some u =>
      obtain ⟨e1, _, _⟩ := only b u q
      rw [e1, at_a] at e
      cases e
      cases d
  have ok : HOk P w H s₁.heap := by
    intro b u q
    obtain ⟨rfl, rfl, _⟩ := only b u q
    exact ⟨at_a, (by rw [List.length_map]; exact few), us, _, rel, at_a⟩
  have start : Env0 P w K mg (hidT s₁.heap H) callerA [] s₁ H := by
    refine ⟨rfl, ⟨keepK, keepN gl, ⟨mb, keepN bl, boot⟩, ?_⟩, fun b o e => of_hidT e, Nat.le_of_eq (hidT_size _ _), trivial, fun b hb => ?_, ok, .of_eq gens⟩
    · obtain ⟨mc, h1, h2⟩ := lim
      exact ⟨mc, keepN h1, h2⟩
    · cases hb
  refine codeAny_mono ((F _ keepK (keepN gl)).goes callerA [] s₁ H ⟨[.ref a], []⟩ [.ref a] [.ref a] _ _ rfl room start (binds s₁ (.ref a)) (.cons rfl .nil) (asked H sq)) fun r s' got => ?_
  match r, got with
  | .error _, got => exact False.elim got
  | .ok .next, got => exact False.elim got
  | .ok .brk, got => exact False.elim got
  | .ok .cont, got => exact False.elim got
  | .ok (.ret u), got =>
    obtain ⟨v, H2, os, bare, un, ok2, ru, q⟩ := got
    have q' : v = .bl true := q
    rw [q'] at ru
    have eu : u = Value.bool true := ru
    refine ⟨by rw [eu], OldK.of_keep fun b o e => ?_, os, bare⟩
    cases z : H b with
    | none => exact un.keep b o e z (fun y => by cases y) (fun y => by cases y)
    | some y =>
      obtain ⟨rfl, rfl, _⟩ := only b y z
      rw [at_a] at e
      cases e
      exact (ok2 _ _ (un.frzs _ _ _ z)).1
/-- the goal that k_head leaves, from the law's promise -/
theorem walkG {l : PySem.W.OpenLaw} {k : Nat} {q : Program} {loose : List Str} {XP : (Str → Option Value) → Heap → Prop} {YP : World → Heap → Prop} {d : DefRec} {K : Params → PySem.W.Frag} {sp : PySem.W.Frag → Sp} {x : Str}
    (most : l.most = some 63) (noDflt : d.params.defaults = []) (room : Room k callerA) (inK : ∀ (w : World) (h : Heap), YP w h → (K w.params).In h)
    (F : ∀ (w : World) (mg : Str → Option Value) (fa : Addr) (h : Heap), (K w.params).In h → h.Ns mainGlobals mg → mg d.name = some (.ref fa) →
      ∃ fd : FuncData, (∀ (s : Shared) (u : Value), BindsTo s fd ⟨[u], []⟩ [(x, u)]) ∧ ∀ base : Heap, (K w.params).In base → base.Ns mainGlobals mg → FnG l.prog w (K w.params) mg base k fa fd [x] (sp (K w.params)))
    (asked : ∀ (K : PySem.W.Frag) (H : Hp) (a : Addr) (ns : List Int), ns.length ≤ 63 → SqL K H a (ns.map V.int) → sp K [.ref a] H (fun v _ => v = .bl true) fun _ _ _ => False) :
    PySem.W.WalkO q loose XP YP l.row.toRowW d [] (fun g us => PySem.call g us) := by
  refine Att.attach_call most noDflt fun w s₀ s₁ mg mb fa o pm cd doc a us ns G Y _ _ _ named obj are few gens => ?_
  have KX := inK w _ Y
  obtain ⟨fd, binds, hF⟩ := F w mg fa _ KX G.T.g named
  exact lawG_end KX G.T.g G.T.b G.T.builtins G.T.nolimit gens obj are (Nat.le_trans few (by decide)) room hF binds fun H sq => asked (K w.params) H a ns few sq
end

/-! ### data that is a tuple -/
theorem Tp.tup_inv {H : Hp} {v : V} {ds : List PyData} (h : Tp H v (.tuple ds)) : ∃ a xs, v = .ref a ∧ H a = some (.tup xs) ∧ TpAll H xs ds := by
  cases h with
  | tup h hs => exact ⟨_, _, rfl, h, hs⟩
theorem Tp.int_inv {H : Hp} {v : V} {i : Int} (h : Tp H v (.int i)) : v = .int i := by
  cases h
  rfl
theorem Tp.str_inv {H : Hp} {v : V} {z : Str} (h : Tp H v (.str z)) : v = .str z := by
  cases h
  rfl
theorem Tp.non_inv {H : Hp} {v : V} (h : Tp H v .none) : v = .non := by
  cases h
  rfl
theorem tpAll_strs {H : Hp} : ∀ {ts : List Str} {xs : List V}, TpAll H xs (ts.map .str) → xs = ts.map V.str
  | [], _, .nil => rfl
  | z :: r, _, .cons h hs => by rw [h.str_inv, tpAll_strs hs, List.map_cons]
theorem tpAll_ints {H : Hp} : ∀ {ns : List Int} {xs : List V}, TpAll H xs (ns.map .int) → xs = ns.map V.int
  | [], _, .nil => rfl
  | z :: r, _, .cons h hs => by rw [h.int_inv, tpAll_ints hs, List.map_cons]
theorem tpAll_parts {H : Hp} : ∀ {r : Rc} {xs : List V}, TpAll H xs (r.map Pt.d) → xs = r.map Pt.v
  | [], _, .nil => rfl
  | .s z :: r, _, .cons h hs => by rw [h.str_inv, tpAll_parts hs, List.map_cons]; rfl
  | .b i :: r, _, .cons h hs => by rw [h.int_inv, tpAll_parts hs, List.map_cons]; rfl
theorem Same.put {H H' : Hp} {q : Addr} {o : HO} (s : Same H H') (hq : H q = none) : Same H (upd H' q o) := fun b u e => by
  rw [upd_ne (ne_of_none e hq)]
  exact s b u e
/-- one part of a row of data that is a map -/
theorem TpAll.at {H : Hp} {α : Type} {g : α → PyData} {vs : List V} {l : List α} {i : Nat} {x : α} (h : TpAll H vs (l.map g)) (e : l[i]? = some x) : ∃ v, vs[i]? = some v ∧ Tp H v (g x) :=
  h.get (by rw [List.getElem?_map, e]; rfl)
theorem take_map_more {α β : Type} {l : List α} {g : α → β} {i : Nat} {x : α} (h : l[i]? = some x) : (l.take (i + 1)).map g = (l.take i).map g ++ [g x] := by
  rw [List.take_add_one, h, List.map_append]
  rfl
theorem ix_tupK {X : Cx} (K : PySem.W.Frag) (h : X.K = K := by rfl) : IxR X (rIxT K) := by
  rw [← h]
  exact ix_tup
theorem ix_listK {X : Cx} (K : PySem.W.Frag) (h : X.K = K := by rfl) : IxR X (rIxL K) := by
  rw [← h]
  exact ix_list
theorem isiK {X : Cx} (K : PySem.W.Frag) (h : X.K = K := by rfl) : CallR X (.builtin "isinstance") (rIsi K) := by
  rw [← h]
  exact call_isi
theorem op_catAK {X : Cx} (K : PySem.W.Frag) (h : X.K = K := by rfl) : OpR X (binaryOp .Add) (rCatA K) := by
  rw [← h]
  exact op_catA
theorem iN_app (a : List Nat) (j : Nat) : (iN (a ++ [j])).map V.int = (iN a).map V.int ++ [.int j] := by
  unfold iN
  rw [List.map_append, List.map_append]
  rfl

/-! ### what writers make of words -/
def ptx (ts : List Str) : Pt → Str
  | .s z => z
  | .b i => ts.getD i ""
/-- what a recipe makes of texts -/
def mk (ts : List Str) (r : Rc) : Str := Txt.join "" (r.map (ptx ts))
def tot (ts : List Str) : Nat := (ts.map (·.length)).sum
def lowT (ts : List Str) : Prop := ∀ z ∈ ts, ∀ c ∈ z.cps.toList, 97 ≤ c ∧ c ≤ 122
theorem getD_low {ts : List Str} (h : lowT ts) (i : Nat) : ∀ c ∈ (ts.getD i "").cps.toList, 97 ≤ c ∧ c ≤ 122 := by
  rw [List.getD_eq_getElem?_getD]
  cases e : ts[i]? with
  | none =>
    intro c hc
    have hc' : c ∈ ("" : Str).cps.toList := hc
    cases hc'
  | some z => exact h z (List.mem_of_getElem? e)
theorem mk_low {ts : List Str} {r : Rc} (h : lowT ts) (hr : lowR r) : ∀ c ∈ (mk ts r).cps.toList, 97 ≤ c ∧ c ≤ 122 := by
  intro c hc
  unfold mk at hc
  rw [join_cps] at hc
  obtain ⟨l, h1, h2⟩ := List.mem_flatten.mp hc
  obtain ⟨y, h3, rfl⟩ := List.mem_map.mp h1
  obtain ⟨q, h4, rfl⟩ := List.mem_map.mp h3
  cases q with
  | s z => exact hr _ h4 c h2
  | b i => exact getD_low h i c h2
theorem mk_len (ts : List Str) : ∀ r : Rc, (mk ts r).length = lets r + ((bufs r).map fun i => (ts.getD i "").length).sum := by
  intro r
  unfold mk
  rw [join_len, List.map_map]
  induction r with
  | nil => rfl
  | cons q r ih =>
    rw [List.map_cons, List.sum_cons, ih]
    cases q with
    | s z =>
      have e1 : lets (.s z :: r) = z.length + lets r := by
        unfold lets
        rw [List.map_cons, List.sum_cons]
        rfl
      have e2 : bufs (.s z :: r) = bufs r := by
        unfold bufs
        rw [List.flatMap_cons]
        rfl
      rw [e1, e2, Nat.add_assoc]
      rfl
    | b i =>
      have e1 : lets (.b i :: r) = lets r := by
        unfold lets
        rw [List.map_cons, List.sum_cons]
        exact Nat.zero_add _
      have e2 : bufs (.b i :: r) = i :: bufs r := by
        unfold bufs
        rw [List.flatMap_cons]
        rfl
      rw [e1, e2, List.map_cons, List.sum_cons]
      show (ts.getD i "").length + (lets r + _) = _
      omega
theorem perm_sum {l m : List Nat} (h : l.Perm m) : l.sum = m.sum := by
  induction h with
  | nil => rfl
  | cons x _ ih => rw [List.sum_cons, List.sum_cons, ih]
  | swap x y l => rw [List.sum_cons, List.sum_cons, List.sum_cons, List.sum_cons]; omega
  | trans _ _ a b => exact a.trans b
theorem sub_sum {g : Nat → Nat} : ∀ (l m : List Nat), l.Nodup → (∀ i ∈ l, i ∈ m) → (l.map g).sum ≤ (m.map g).sum
  | [], m, _, _ => Nat.zero_le _
  | a :: r, m, nd, h => by
    rw [List.nodup_cons] at nd
    have pm := List.perm_cons_erase (h a List.mem_cons_self)
    have e := perm_sum (pm.map g)
    rw [e, List.map_cons, List.map_cons, List.sum_cons, List.sum_cons]
    refine Nat.add_le_add_left (sub_sum r (m.erase a) nd.2 fun i hi => ?_) _
    have ne : i ≠ a := fun z => nd.1 (z ▸ hi)
    exact (List.mem_erase_of_ne ne).mpr (h i (List.mem_cons_of_mem _ hi))
theorem range_tot : ∀ (ts : List Str), ((List.range ts.length).map fun i => (ts.getD i "").length).sum = tot ts := by
  intro ts
  have e : (List.range ts.length).map (fun i => (ts.getD i "").length) = ts.map (·.length) := by
    refine List.ext_getElem (by rw [List.length_map, List.length_map, List.length_range]) fun i h1 h2 => ?_
    rw [List.length_map] at h2
    rw [List.getElem_map, List.getElem_map, List.getElem_range, List.getD_eq_getElem?_getD, List.getElem?_eq_getElem h2]
    rfl
  rw [e]
  rfl
theorem bufs_tot {ts : List Str} {l : List Nat} {n : Nat} (nd : l.Nodup) (h : ∀ i ∈ l, i < n) (e : ts.length = n) : (l.map fun i => (ts.getD i "").length).sum ≤ tot ts := by
  rw [← range_tot ts, e]
  exact sub_sum _ _ nd fun i hi => List.mem_range.mpr (h i hi)
theorem tot_all (ts : List Str) : ∀ fs : List Rc, tot (fs.map (mk ts)) = (fs.map lets).sum + ((fs.flatMap bufs).map fun i => (ts.getD i "").length).sum
  | [] => rfl
  | r :: fs => by
    have ih := tot_all ts fs
    unfold tot at ih ⊢
    rw [List.map_cons, List.map_cons, List.sum_cons, ih, mk_len, List.map_cons, List.sum_cons, List.flatMap_cons, List.map_append, List.sum_append]
    omega
theorem lets_all {n : Nat} : ∀ fs : List Rc, (∀ r ∈ fs, lets r ≤ n) → (fs.map lets).sum ≤ n * fs.length
  | [], _ => Nat.zero_le _
  | r :: fs, h => by
    have a := h r List.mem_cons_self
    have b := lets_all fs fun x hx => h x (List.mem_cons_of_mem _ hx)
    rw [List.map_cons, List.sum_cons, List.length_cons, Nat.mul_succ]
    omega
theorem tot_step {ts : List Str} {fs : List Rc} {n : Nat} (h : FOkB n fs) (e : ts.length = n) : tot (fs.map (mk ts)) ≤ 1000 * n + tot ts := by
  rw [tot_all]
  have a := lets_all fs fun r hr => (h.each r hr).lt
  have b := bufs_tot h.nd h.lt e
  rw [h.len] at a
  omega
theorem tot_mem : ∀ {ts : List Str} {z : Str}, z ∈ ts → z.length ≤ tot ts
  | y :: r, z, h => by
    unfold tot
    rw [List.map_cons, List.sum_cons]
    rcases List.mem_cons.mp h with rfl | h
    · omega
    · have := tot_mem h
      unfold tot at this
      omega
theorem mk_end {ts : List Str} {r : Rc} {n : Nat} (h : EOkB n r) (e : ts.length = n) : (mk ts r).length ≤ 1000 + tot ts := by
  rw [mk_len]
  have a := h.ok.lt
  have b := bufs_tot h.nd h.lt e
  omega

/-- where an entry leads from texts -/
def goE (ts : List Str) : Option (Nat × List Rc) → Option (Nat × List Str)
  | none => none
  | some (t, fs) => some (t, fs.map (mk ts))
/-- a kind more behind a situation -/
def stepW (W : Wr) (o : Option (Nat × List Str)) (k : Nat) : Option (Nat × List Str) :=
  match o with
  | none => none
  | some (st, ts) => goE ts ((W.rules.getD st []).getD k none)
def runW (W : Wr) (ns : List Nat) : Option (Nat × List Str) := ns.foldl (stepW W) (some (0, W.begins))
def tellW (W : Wr) (ns : List Nat) : Option Str :=
  match runW W ns with
  | none => none
  | some (st, ts) => match W.ends.getD st none with
    | none => none
    | some r => some (mk ts r)
def sitD : Option (Nat × List Str) → PyData
  | none => .none
  | some (st, ts) => .tuple [.int st, .tuple (ts.map .str)]
def txtD : Option Str → PyData
  | none => .none
  | some z => .str z
/-- a situation of a writer with S states, B buffers; its texts have at most n letters -/
structure SOk (S B n : Nat) (st : Nat) (ts : List Str) : Prop where
  st : st < S
  len : ts.length = B
  tot : tot ts ≤ n
  low : lowT ts
theorem ent_at {k S B : Nat} {W : Wr} (h : WOkB k S B W) {st kd : Nat} (hs : st < S) (hk : kd < k) : ∃ row e, W.rules[st]? = some row ∧ row[kd]? = some e ∧ (W.rules.getD st []).getD kd none = e ∧ EntOkB S B e := by
  have h1 : st < W.rules.length := by rw [h.r1]; exact hs
  have m1 := List.getElem_mem h1
  obtain ⟨r1, r2⟩ := h.r2 _ m1
  have h2 : kd < (W.rules[st]).length := by rw [r1]; exact hk
  refine ⟨W.rules[st], (W.rules[st])[kd], List.getElem?_eq_getElem h1, List.getElem?_eq_getElem h2, ?_, r2 _ (List.getElem_mem h2)⟩
  rw [List.getD_eq_getElem?_getD, List.getD_eq_getElem?_getD, List.getElem?_eq_getElem h1, Option.getD_some, List.getElem?_eq_getElem h2, Option.getD_some]
theorem step_ok {k S B n : Nat} {W : Wr} (h : WOkB k S B W) {st kd : Nat} {ts : List Str} (hs : SOk S B n st ts) {t : Nat} {fs : List Rc} (he : EntOkB S B (some (t, fs))) : SOk S B (n + 1000 * B) t (fs.map (mk ts)) := by
  obtain ⟨h1, h2⟩ := he t fs rfl
  refine ⟨h1, by rw [List.length_map]; exact h2.len, ?_, fun z hz => ?_⟩
  · have a := tot_step h2 hs.len
    have b := hs.tot
    omega
  · obtain ⟨r, hr, rfl⟩ := List.mem_map.mp hz
    exact mk_low hs.low (h2.each r hr).low
theorem begin_ok {k S B : Nat} {W : Wr} (h : WOkB k S B W) (hS : 1 ≤ S) : SOk S B (2 * B) 0 W.begins := by
  refine ⟨hS, h.b1, ?_, fun z hz => (h.b2 z hz).low⟩
  have e : ∀ l : List Str, (∀ z ∈ l, Tx 2 z) → tot l ≤ 2 * l.length := by
    intro l
    induction l with
    | nil => exact fun _ => Nat.zero_le _
    | cons z r ih =>
      intro hz
      have a := ih fun y hy => hz y (List.mem_cons_of_mem _ hy)
      have b := (hz z List.mem_cons_self).len
      unfold tot at a ⊢
      rw [List.map_cons, List.sum_cons, List.length_cons]
      omega
  have := e W.begins h.b2
  rw [h.b1] at this
  exact this
theorem stepW_none (W : Wr) (k : Nat) : stepW W none k = none := rfl
theorem fold_none (W : Wr) : ∀ l : List Nat, l.foldl (stepW W) none = none
  | [] => rfl
  | _ :: r => by rw [List.foldl_cons, stepW_none, fold_none W r]
/-- all situations on a word's way are in order -/
theorem run_ok {k S B : Nat} {W : Wr} (h : WOkB k S B W) (hS : 1 ≤ S) {ns : List Nat} (hn : ∀ i ∈ ns, i < k) : ∀ st ts, runW W ns = some (st, ts) → SOk S B (2 * B + 1000 * B * ns.length) st ts := by
  have main : ∀ (l : List Nat) (o : Option (Nat × List Str)) (n : Nat), (∀ i ∈ l, i < k) → (∀ st ts, o = some (st, ts) → SOk S B n st ts) → ∀ st ts, l.foldl (stepW W) o = some (st, ts) → SOk S B (n + 1000 * B * l.length) st ts := by
    intro l
    induction l with
    | nil => exact fun o n _ ho st ts e => ho st ts e
    | cons a r ih =>
      intro o n hl ho st ts e
      rw [List.foldl_cons] at e
      have q := ih (stepW W o a) (n + 1000 * B) (fun i hi => hl i (List.mem_cons_of_mem _ hi)) ?_ st ts e
      · refine ⟨q.st, q.len, Nat.le_trans q.tot ?_, q.low⟩
        rw [List.length_cons, Nat.mul_succ]
        omega
      · intro st' ts' e'
        cases o with
        | none => cases e'
        | some x =>
          obtain ⟨s0, t0⟩ := x
          have s1 := ho s0 t0 rfl
          obtain ⟨row, en, _, _, h3, h4⟩ := ent_at h s1.st (hl a List.mem_cons_self)
          have e2 : stepW W (some (s0, t0)) a = goE t0 en := congrArg (goE t0) h3
          rw [e2] at e'
          cases en with
          | none => cases e'
          | some y =>
            obtain ⟨t, fs⟩ := y
            cases e'
            exact step_ok (kd := a) h s1 h4
  intro st ts e
  exact main ns _ (2 * B) hn (fun st ts e => by cases e; exact begin_ok h hS) st ts e
theorem run_more (W : Wr) {ns : List Nat} {i x : Nat} (h : ns[i]? = some x) : runW W (ns.take (i + 1)) = stepW W (runW W (ns.take i)) x := foldl_more (stepW W) _ h


/-! ### words as data -/
def wordD (ns : List Nat) : PyData := .tuple ((iN ns).map .int)
theorem tp_word {H : Hp} {t : Addr} {ns : List Nat} (h : H t = some (.tup ((iN ns).map V.int))) : Tp H (.ref t) (wordD ns) := .tup h (TpAll.map fun z _ => .int z)
theorem Tp.word_inv {H : Hp} {v : V} {ns : List Nat} (h : Tp H v (wordD ns)) : ∃ a, v = .ref a ∧ H a = some (.tup ((iN ns).map V.int)) := by
  obtain ⟨a, xs, rfl, h1, h2⟩ := h.tup_inv
  rw [tpAll_ints h2] at h1
  exact ⟨a, rfl, h1⟩

/-! ### drawn words as rows of numbers -/
theorem iN_nat {b : Int} {n : Nat} {ks : List Int} (h : Wd b n ks) : ∃ ns : List Nat, ks = iN ns ∧ ns.length ≤ n ∧ ∀ i ∈ ns, (i : Int) < b := by
  refine ⟨ks.map Int.toNat, ?_, by rw [List.length_map]; exact h.1, fun i hi => ?_⟩
  · unfold iN
    rw [List.map_map]
    have e : ks.map ((fun (i : Nat) => (i : Int)) ∘ Int.toNat) = ks.map id := List.map_congr_left fun z hz => Int.toNat_of_nonneg (h.2 z hz).1
    rw [e, List.map_id]
  · obtain ⟨z, hz, rfl⟩ := List.mem_map.mp hi
    have := h.2 z hz
    omega

/-! ### recipes made -/
def spMade : Sp := fun vs H Q _ => ∃ (a t : V) (r : Rc) (ts : List Str), vs = [a, t] ∧ Tp H a r.d ∧ Tp H t (.tuple (ts.map .str)) ∧ (∀ i ∈ bufs r, i < ts.length) ∧ r.length ≤ 1000 ∧ (mk ts r).length ≤ 1000000 ∧
  ∀ H', Same H H' → Q (.str (mk ts r)) H'

theorem sc_made : FnScope ["recipe", "texts", "part"] ["recipe", "texts"] (fnScope st_made) := fnScope_by (by decide +kernel)
section
variable {P : Program} {w : World} {K : PySem.W.Frag} {mg : Str → Option Value} {base : Heap} {f : Addr} {fd : FuncData}
theorem cal_made (F : C8.Def K mg "_made" st_made f fd) (b : Binds K fd ["recipe", "texts"] []) (B : BN2 mg) : Cal P w K mg base 1 "_made" spMade [] := by
  refine cal0 F b .nil sc_made (fun vs H Q E h => ?_) (fun cdv A outer s H vs Q E hr h => ?_)
  · obtain ⟨a, t, r, ts, rfl, _⟩ := h
    rfl
  · obtain ⟨a, t, r, ts, rfl, ha, ht, hb, hl, hm, k⟩ := h
    obtain ⟨a, xs, rfl, ha1, ha2⟩ := ha.tup_inv
    obtain ⟨t, ys, rfl, ht1, ht2⟩ := ht.tup_inv
    obtain rfl := tpAll_parts ha2
    obtain rfl := tpAll_strs ht2
    refine ⟨_, pss_one (ps_ret (pe_join pe_str (pe_lc (own := [("part", 2)]) (g := gName 2) (tt := tYes) (by rfl) sc_made.nd (pi_tup (pv 0)) (blkOk_by (own := [("part", 2)]) (N := ["recipe", "texts", "part"]) (sc := fnScope st_made) (by decide +kernel))
      (fun _ _ _ _ _ => pg_name (i := 2) sc_made.nd rfl (Or.inl rfl)) (fun _ _ _ _ _ => pts_nil)
      (fun _ _ _ _ _ => pe_ifExp (pt_val (pe_callB (isiK K) (by rfl) B.isi (by decide +kernel) (pa_cons (pv 2) (pa_cons (pe_bltn (v := .ty "str") (by rfl) B.str (by decide +kernel) rfl) pa_nil)))) (pv 2) (pe_ix (ix_tupK K) (pv 1) (pv 2) (fun _ _ => rfl)))))), ?_⟩
    refine ⟨⟨_, rfl⟩, _, rfl, a, rfl, ⟨_, SqT.of ha1⟩, fun D hD => ?_⟩
    refine lc_tup (K := K) (a := a) (xs := r.map Pt.v) (fun i H' => Same H H' ∧ H' D = some (.lst (((r.take i).map (ptx ts)).map V.str))) ⟨same_new hD, upd_same⟩ (fun i H' _ h => SqT.of (h.1 _ _ ha1)) ?_ ?_
    · rintro i x H1 hi ⟨s1, hL⟩
      obtain ⟨q, hq, rfl⟩ : ∃ q, r[i]? = some q ∧ x = Pt.v q := by
        rw [List.getElem?_map] at hi
        cases e : r[i]? with
        | none =>
          rw [e] at hi
          cases hi
        | some y =>
          rw [e] at hi
          exact ⟨y, rfl, (Option.some.inj hi).symm⟩
      have more : ((r.take (i + 1)).map (ptx ts)).map V.str = ((r.take i).map (ptx ts)).map V.str ++ [V.str (ptx ts q)] := by
        rw [List.take_add_one, hq, List.map_append, List.map_append]
        rfl
      have done : ∃ acc, H1 D = some (.lst acc) ∧ acc.length < sizeLine ∧ Same H (upd H1 D (.lst (acc ++ [.str (ptx ts q)]))) ∧ upd H1 D (.lst (acc ++ [.str (ptx ts q)])) D = some (.lst (((r.take (i + 1)).map (ptx ts)).map V.str)) := by
        refine ⟨_, hL, ?_, Same.put s1 hD, by rw [upd_same, more]⟩
        rw [List.length_map, List.length_map, List.length_take]
        exact Nat.lt_of_le_of_lt (Nat.le_trans (Nat.min_le_right _ _) hl) (by decide)
      refine ⟨rfl, ?_⟩
      obtain ⟨ty, tb, t1, t2, t3, t4⟩ := isi_pt (K := K) (H := H1) q
      refine ⟨_, rfl, q.v, _, ty, _, tb, rfl, .ty _, t1, t2, _, rfl, ?_⟩
      cases tb with
      | true =>
        obtain ⟨z, rfl⟩ := t3 rfl
        exact iteT ⟨_, rfl, done⟩
      | false =>
        obtain ⟨j, rfl⟩ := t4 rfl
        have hj : j < ts.length := hb j (List.mem_flatMap.mpr ⟨_, List.mem_of_getElem? hq, List.mem_singleton.mpr rfl⟩)
        refine iteF ⟨_, rfl, _, rfl, t, _, (j : Int), .str (ptx ts (.b j)), rfl, rfl, SqT.of (s1 _ _ ht1), atI_nat ?_, done⟩
        rw [List.getElem?_map, List.getElem?_eq_getElem hj]
        show some (V.str ts[j]) = some (V.str (ts.getD j ""))
        rw [List.getD_eq_getElem?_getD, List.getElem?_eq_getElem hj]
        rfl
    · rintro H1 ⟨s1, hL⟩
      rw [List.length_map, List.take_length] at hL
      refine ⟨_, D, r.map (ptx ts), rfl, rfl, .inl (SqL.of hL), ?_, k _ s1⟩
      rw [← join_len]
      have e : (("" : Str)).length = 0 := by decide
      rw [e, Nat.mul_zero, Nat.add_zero]
      exact Nat.le_trans hm (by decide)
end

theorem sc_law_made : FnScope ["recipe", "texts", "part"] ["recipe", "texts"] (fnScope st_law_made) := fnScope_by (by decide +kernel)
section
variable {P : Program} {w : World} {K : PySem.W.Frag} {mg : Str → Option Value} {base : Heap} {f : Addr} {fd : FuncData}
theorem cal_law_made (F : C8.Def K mg "_law_made" st_law_made f fd) (b : Binds K fd ["recipe", "texts"] []) (B : BN2 mg) : Cal P w K mg base 1 "_law_made" spMade [] := by
  refine cal0 F b .nil sc_law_made (fun vs H Q E h => ?_) (fun cdv A outer s H vs Q E hr h => ?_)
  · obtain ⟨a, t, r, ts, rfl, _⟩ := h
    rfl
  · obtain ⟨a, t, r, ts, rfl, ha, ht, hb, hl, hm, k⟩ := h
    obtain ⟨a, xs, rfl, ha1, ha2⟩ := ha.tup_inv
    obtain ⟨t, ys, rfl, ht1, ht2⟩ := ht.tup_inv
    obtain rfl := tpAll_parts ha2
    obtain rfl := tpAll_strs ht2
    refine ⟨_, pss_one (ps_ret (pe_join pe_str (pe_lc (own := [("part", 2)]) (g := gName 2) (tt := tYes) (by rfl) sc_law_made.nd (pi_tup (pv 0)) (blkOk_by (own := [("part", 2)]) (N := ["recipe", "texts", "part"]) (sc := fnScope st_law_made) (by decide +kernel))
      (fun _ _ _ _ _ => pg_name (i := 2) sc_law_made.nd rfl (Or.inl rfl)) (fun _ _ _ _ _ => pts_nil)
      (fun _ _ _ _ _ => pe_ifExp (pt_val (pe_callB (isiK K) (by rfl) B.isi (by decide +kernel) (pa_cons (pv 2) (pa_cons (pe_bltn (v := .ty "str") (by rfl) B.str (by decide +kernel) rfl) pa_nil)))) (pv 2) (pe_ix (ix_tupK K) (pv 1) (pv 2) (fun _ _ => rfl)))))), ?_⟩
    refine ⟨⟨_, rfl⟩, _, rfl, a, rfl, ⟨_, SqT.of ha1⟩, fun D hD => ?_⟩
    refine lc_tup (K := K) (a := a) (xs := r.map Pt.v) (fun i H' => Same H H' ∧ H' D = some (.lst (((r.take i).map (ptx ts)).map V.str))) ⟨same_new hD, upd_same⟩ (fun i H' _ h => SqT.of (h.1 _ _ ha1)) ?_ ?_
    · rintro i x H1 hi ⟨s1, hL⟩
      obtain ⟨q, hq, rfl⟩ : ∃ q, r[i]? = some q ∧ x = Pt.v q := by
        rw [List.getElem?_map] at hi
        cases e : r[i]? with
        | none =>
          rw [e] at hi
          cases hi
        | some y =>
          rw [e] at hi
          exact ⟨y, rfl, (Option.some.inj hi).symm⟩
      have more : ((r.take (i + 1)).map (ptx ts)).map V.str = ((r.take i).map (ptx ts)).map V.str ++ [V.str (ptx ts q)] := by
        rw [List.take_add_one, hq, List.map_append, List.map_append]
        rfl
      have done : ∃ acc, H1 D = some (.lst acc) ∧ acc.length < sizeLine ∧ Same H (upd H1 D (.lst (acc ++ [.str (ptx ts q)]))) ∧ upd H1 D (.lst (acc ++ [.str (ptx ts q)])) D = some (.lst (((r.take (i + 1)).map (ptx ts)).map V.str)) := by
        refine ⟨_, hL, ?_, Same.put s1 hD, by rw [upd_same, more]⟩
        rw [List.length_map, List.length_map, List.length_take]
        exact Nat.lt_of_le_of_lt (Nat.le_trans (Nat.min_le_right _ _) hl) (by decide)
      refine ⟨rfl, ?_⟩
      obtain ⟨ty, tb, t1, t2, t3, t4⟩ := isi_pt (K := K) (H := H1) q
      refine ⟨_, rfl, q.v, _, ty, _, tb, rfl, .ty _, t1, t2, _, rfl, ?_⟩
      cases tb with
      | true =>
        obtain ⟨z, rfl⟩ := t3 rfl
        exact iteT ⟨_, rfl, done⟩
      | false =>
        obtain ⟨j, rfl⟩ := t4 rfl
        have hj : j < ts.length := hb j (List.mem_flatMap.mpr ⟨_, List.mem_of_getElem? hq, List.mem_singleton.mpr rfl⟩)
        refine iteF ⟨_, rfl, _, rfl, t, _, (j : Int), .str (ptx ts (.b j)), rfl, rfl, SqT.of (s1 _ _ ht1), atI_nat ?_, done⟩
        rw [List.getElem?_map, List.getElem?_eq_getElem hj]
        show some (V.str ts[j]) = some (V.str (ts.getD j ""))
        rw [List.getD_eq_getElem?_getD, List.getElem?_eq_getElem hj]
        rfl
    · rintro H1 ⟨s1, hL⟩
      rw [List.length_map, List.take_length] at hL
      refine ⟨_, D, r.map (ptx ts), rfl, rfl, .inl (SqL.of hL), ?_, k _ s1⟩
      rw [← join_len]
      have e : (("" : Str)).length = 0 := by decide
      rw [e, Nat.mul_zero, Nat.add_zero]
      exact Nat.le_trans hm (by decide)
end

/-! ### the program's runs, the law's runs -/
def spFilled : Sp := fun vs H Q _ => ∃ (a t : V) (fs : List Rc) (ts : List Str) (n : Nat), vs = [a, t] ∧ Tp H a (fillsD fs) ∧ Tp H t (.tuple (ts.map .str)) ∧ FOkB n fs ∧ ts.length = n ∧ n ≤ 3 ∧ tot ts ≤ 900000 ∧
  ∀ (v : V) H', Same H H' → Tp H' v (.tuple ((fs.map (mk ts)).map .str)) → Q v H'
def spBehind : Sp := fun vs H Q _ => ∃ (a t : V) (W : Wr) (ns : List Nat) (k S B : Nat), vs = [a, t] ∧ Tp H a W.d ∧ Tp H t (wordD ns) ∧ WOkB k S B W ∧ 1 ≤ S ∧ B ≤ 3 ∧ (∀ i ∈ ns, i < k) ∧ ns.length ≤ 30 ∧
  ∀ (v : V) H', Same H H' → Tp H' v (sitD (runW W ns)) → Q v H'
def spTell : Sp := fun vs H Q _ => ∃ (a t : V) (W : Wr) (ns : List Nat) (k S B : Nat), vs = [a, t] ∧ Tp H a W.d ∧ Tp H t (wordD ns) ∧ WOkB k S B W ∧ 1 ≤ S ∧ B ≤ 3 ∧ (∀ i ∈ ns, i < k) ∧ ns.length ≤ 30 ∧
  ∀ (v : V) H', Same H H' → Tp H' v (txtD (tellW W ns)) → Q v H'
theorem fills_one {n : Nat} {fs : List Rc} {ts : List Str} (h : FOkB n fs) (e : ts.length = n) (ht : tot ts ≤ 900000) (hn : n ≤ 3) {r : Rc} (hr : r ∈ fs) : (∀ i ∈ bufs r, i < ts.length) ∧ r.length ≤ 1000 ∧ (mk ts r).length ≤ 1000000 := by
  refine ⟨fun i hi => by rw [e]; exact h.lt i (List.mem_flatMap.mpr ⟨r, hr, hi⟩), Nat.le_trans (h.each r hr).len (by decide), ?_⟩
  have a := tot_mem (ts := fs.map (mk ts)) (List.mem_map_of_mem hr)
  have b := tot_step h e
  omega
theorem sc_filled : FnScope ["fills", "texts", "recipe"] ["fills", "texts"] (fnScope st_filled) := fnScope_by (by decide +kernel)
section
variable {P : Program} {w : World} {K : PySem.W.Frag} {mg : Str → Option Value} {base : Heap} {f : Addr} {fd : FuncData}
theorem cal_filled (F : C8.Def K mg "_filled" st_filled f fd) (b : Binds K fd ["fills", "texts"] []) (B : BN2 mg) (Cm : Cal P w K mg base 1 "_made" spMade []) : Cal P w K mg base 2 "_filled" spFilled [] := by
  refine cal0 F b .nil sc_filled (fun vs H Q E h => ?_) (fun cdv A outer s H vs Q E hr h => ?_)
  · obtain ⟨a, t, fs, ts, n, rfl, _⟩ := h
    rfl
  · obtain ⟨a, t, fs, ts, n, rfl, ha, ht, hf, hn, h50, htot, k⟩ := h
    obtain ⟨a, xs, rfl, ha1, ha2⟩ := ha.tup_inv
    refine ⟨_, pss_one (ps_ret (pe_callTy call_tuple_of (by rfl) B.tuple (by decide +kernel) (pa_cons (pe_lc (own := [("recipe", 2)]) (g := gName 2) (tt := tYes) (by rfl) sc_filled.nd (pi_tup (pv 0))
      (blkOk_by (own := [("recipe", 2)]) (N := ["fills", "texts", "recipe"]) (sc := fnScope st_filled) (by decide +kernel)) (fun _ _ _ _ _ => pg_name (i := 2) sc_filled.nd rfl (Or.inl rfl)) (fun _ _ _ _ _ => pts_nil)
      (fun _ _ _ _ _ => pe_c Cm hr (by decide) (by rfl) (pa_cons (pv 2) (pa_cons (pv 1) pa_nil)))) pa_nil))), ?_⟩
    refine ⟨_, rfl, a, rfl, ⟨_, SqT.of ha1⟩, fun D hD => ?_⟩
    have lenx : xs.length = fs.length := by rw [ha2.len, List.length_map]
    refine lc_tup (K := K) (a := a) (xs := xs) (fun i H' => Same H H' ∧ H' D = some (.lst (((fs.take i).map (mk ts)).map V.str))) ⟨same_new hD, upd_same⟩ (fun i H' _ h => SqT.of (h.1 _ _ ha1)) ?_ ?_
    · rintro i x H1 hi ⟨s1, hL⟩
      have hlt : i < fs.length := by
        have := (List.getElem?_eq_some_iff.mp hi).1
        omega
      obtain ⟨v, hv, tv⟩ := ha2.at (List.getElem?_eq_getElem hlt)
      rw [hi] at hv
      cases hv
      have mem := List.getElem_mem hlt
      obtain ⟨m1, m2, m3⟩ := fills_one hf hn htot h50 mem
      refine ⟨rfl, ?_⟩
      refine ⟨_, rfl, _, rfl, x, t, fs[i], ts, rfl, tv.mono (Same.tk s1), ht.mono (Same.tk s1), m1, m2, m3, fun H2 s2 => ?_⟩
      refine ⟨_, s2 _ _ hL, ?_, Same.put (Same.trans s1 s2) hD, ?_⟩
      · rw [List.length_map, List.length_map, List.length_take]
        exact Nat.lt_of_le_of_lt (Nat.le_trans (Nat.min_le_right _ _) (show fs.length ≤ 3 by rw [hf.len]; exact h50)) (by decide)
      · rw [upd_same, take_map_more (List.getElem?_eq_getElem hlt), List.map_append]
        rfl
    · rintro H1 ⟨s1, hL⟩
      rw [lenx, List.take_length] at hL
      refine ⟨D, _, rfl, .inl ⟨SqL.of hL, fun u hu => k _ _ (Same.trans s1 (same_new hu)) (.tup upd_same (TpAll.map fun z _ => .str z))⟩⟩
end

theorem end_at {k S B : Nat} {W : Wr} (h : WOkB k S B W) {st : Nat} (hs : st < S) : ∃ e, W.ends[st]? = some e ∧ W.ends.getD st none = e ∧ ∀ q, e = some q → EOkB B q := by
  have h1 : st < W.ends.length := by rw [h.e1]; exact hs
  exact ⟨W.ends[st], List.getElem?_eq_getElem h1, by rw [List.getD_eq_getElem?_getD, List.getElem?_eq_getElem h1, Option.getD_some], h.e2 _ (List.getElem_mem h1)⟩
theorem bound9 {B n : Nat} (h50 : B ≤ 3) (hn : n ≤ 30) : 2 * B + 1000 * B * n ≤ 600000 := by
  have e2 : 1000 * B * n ≤ 1000 * 3 * 30 := Nat.mul_le_mul (Nat.mul_le_mul_left 1000 h50) hn
  omega
theorem end_fits {S B n st : Nat} {ts : List Str} {r : Rc} (so : SOk S B n st ts) (h : EOkB B r) (hn : n ≤ 600000) : (∀ i ∈ bufs r, i < ts.length) ∧ r.length ≤ 1000 ∧ (mk ts r).length ≤ 1000000 := by
  refine ⟨fun i hi => by rw [so.len]; exact h.lt i hi, Nat.le_trans h.ok.len (by decide), ?_⟩
  have a := mk_end h so.len
  have b := so.tot
  omega
theorem tell_some {W : Wr} {ns : List Nat} {st : Nat} {ts : List Str} (er : runW W ns = some (st, ts)) : tellW W ns = (W.ends.getD st none).map (mk ts) := by
  unfold tellW
  rw [er]
  show (match W.ends.getD st none with | none => none | some r => some (mk ts r)) = _
  cases W.ends.getD st none <;> rfl
theorem tell_none {W : Wr} {ns : List Nat} (er : runW W ns = none) : tellW W ns = none := by
  unfold tellW
  rw [er]

/-! ### the program's runs, from any situation -/
theorem fold_ok {k S B : Nat} {W : Wr} (h : WOkB k S B W) : ∀ (l : List Nat) (o : Option (Nat × List Str)) (n : Nat), (∀ i ∈ l, i < k) → (∀ st ts, o = some (st, ts) → SOk S B n st ts) → ∀ st ts, l.foldl (stepW W) o = some (st, ts) → SOk S B (n + 1000 * B * l.length) st ts := by
  intro l
  induction l with
  | nil => exact fun o n _ ho st ts e => ho st ts e
  | cons a r ih =>
    intro o n hl ho st ts e
    rw [List.foldl_cons] at e
    have q := ih (stepW W o a) (n + 1000 * B) (fun i hi => hl i (List.mem_cons_of_mem _ hi)) ?_ st ts e
    · refine ⟨q.st, q.len, Nat.le_trans q.tot ?_, q.low⟩
      rw [List.length_cons, Nat.mul_succ]
      omega
    · intro st' ts' e'
      cases o with
      | none => cases e'
      | some x =>
        obtain ⟨s0, t0⟩ := x
        have s1 := ho s0 t0 rfl
        obtain ⟨row, en, _, _, h3, h4⟩ := ent_at h s1.st (hl a List.mem_cons_self)
        have e2 : stepW W (some (s0, t0)) a = goE t0 en := congrArg (goE t0) h3
        rw [e2] at e'
        cases en with
        | none => cases e'
        | some y =>
          obtain ⟨t, fs⟩ := y
          cases e'
          exact step_ok (kd := a) h s1 h4
def tellO (W : Wr) : Option (Nat × List Str) → Option Str
  | none => none
  | some (st, ts) => (W.ends.getD st none).map (mk ts)
theorem tell_O (W : Wr) (ns : List Nat) : tellW W ns = tellO W (runW W ns) := by
  cases er : runW W ns with
  | none => exact tell_none er
  | some o =>
    obtain ⟨st, ts⟩ := o
    exact tell_some er
def FromOk (H : Hp) (vs : List V) (W : Wr) (ns : List Nat) (st : Nat) (ts : List Str) : Prop := ∃ (a x t : V) (k S B n : Nat), vs = [a, x, t] ∧ Tp H a W.d ∧ Tp H x (sitD (some (st, ts))) ∧ Tp H t (wordD ns) ∧ WOkB k S B W ∧ SOk S B n st ts ∧ n ≤ 100000 ∧ B ≤ 3 ∧ (∀ i ∈ ns, i < k) ∧ ns.length ≤ 30
def spBehindF : Sp := fun vs H Q _ => ∃ (W : Wr) (ns : List Nat) (st : Nat) (ts : List Str), FromOk H vs W ns st ts ∧ ∀ (v : V) H', Same H H' → Tp H' v (sitD (ns.foldl (stepW W) (some (st, ts)))) → Q v H'
def spTellF : Sp := fun vs H Q _ => ∃ (W : Wr) (ns : List Nat) (st : Nat) (ts : List Str), FromOk H vs W ns st ts ∧ ∀ (v : V) H', Same H H' → Tp H' v (txtD (tellO W (ns.foldl (stepW W) (some (st, ts))))) → Q v H'
theorem sc_behind_from : FnScope ["writer", "situation", "word", "state", "texts", "kind", "entry", "fills"] ["writer", "situation", "word"] (fnScope st_behind_from_) := fnScope_by (by decide +kernel)
section
variable {P : Program} {w : World} {K : PySem.W.Frag} {mg : Str → Option Value} {base : Heap} {f : Addr} {fd : FuncData}
theorem cal_behind_from_ (F : C8.Def K mg "behind_from" st_behind_from_ f fd) (b : Binds K fd ["writer", "situation", "word"] []) (Cf : Cal P w K mg base 2 "_filled" spFilled []) : Cal P w K mg base 3 "behind_from" spBehindF [] := by
  refine cal0 F b .nil sc_behind_from (fun vs H Q E h => ?_) (fun cdv A outer s H vs Q E hr h => ?_)
  · obtain ⟨W, ns, st, ts, ⟨a, x, t, k, S, B, n, rfl, _⟩, _⟩ := h
    rfl
  · obtain ⟨W, ns, st0, ts0, ⟨a, x, t, kk, S, Bf, n0, rfl, ha, hx, ht, hW, hS0, hn0, h50, hns, hln⟩, k⟩ := h
    obtain ⟨a, xs, rfl, ha1, ha2⟩ := ha.tup_inv
    cases ha2 with
    | @cons vb x2 _ _ tb h2 =>
    cases h2 with
    | @cons vr x3 _ _ tr h3 =>
    obtain ⟨t, rfl, ht1⟩ := ht.word_inv
    obtain ⟨ra, rx, rfl, tr1, tr2⟩ := tr.tup_inv
    obtain ⟨sa, sx, rfl, sx1, sx2⟩ := hx.tup_inv
    cases sx2 with
    | @cons vst y1 _ _ u1 u2 =>
    cases u2 with
    | @cons vts y2 _ _ u3 u4 =>
    cases u4
    obtain rfl := u1.int_inv
    refine ⟨_, pss_cons (ps_asg (pv 1) (pg_tup rfl (pgs_cons (pg_name (i := 3) sc_behind_from.nd rfl (Or.inl rfl)) (pgs_cons (pg_name (i := 4) sc_behind_from.nd rfl (Or.inl rfl)) pgs_nil))))
      (pss_cons (ps_for PassesOwn.never rfl (pi_tup (pv 2)) (pg_name (i := 5) sc_behind_from.nd rfl (Or.inl rfl))
        (pss_cons (ps_set (i := 6) sc_behind_from.nd rfl (Or.inl rfl) (pe_ix ix_tup (pe_ix ix_tup (pe_ix ix_tup (pv 0) pe_int (fun _ _ => rfl)) (pv 3) (fun _ _ => rfl)) (pv 5) (fun _ _ => rfl)))
        (pss_cons (ps_if (pt_cmp (pc_isN (pv 6))) (pss_one (ps_ret pe_non)) pss_nil)
        (pss_cons (ps_asg (pv 6) (pg_tup rfl (pgs_cons (pg_name (i := 3) sc_behind_from.nd rfl (Or.inl rfl)) (pgs_cons (pg_name (i := 7) sc_behind_from.nd rfl (Or.inl rfl)) pgs_nil))))
        (pss_one (ps_set (i := 4) sc_behind_from.nd rfl (Or.inl rfl) (pe_c Cf hr (by decide) (by rfl) (pa_cons (pv 7) (pa_cons (pv 4) pa_nil)))))))))
      (pss_one (ps_ret (pe_tup (pa_cons (pv 3) (pa_cons (pv 4) pa_nil)))))), ?_⟩
    refine ⟨_, rfl, sa, _, rfl, SqT.of sx1, rfl, _, _, rfl, _, _, rfl, rfl, ?_⟩
    have bd : ∀ m : Nat, m ≤ 30 → n0 + 1000 * Bf * m ≤ 600000 := fun m hm => by
      have e2 : 1000 * Bf * m ≤ 1000 * 3 * 30 := Nat.mul_le_mul (Nat.mul_le_mul_left 1000 h50) hm
      omega
    refine ⟨_, rfl, t, rfl, ⟨_, SqT.of ht1⟩, for_tup (K := K) (a := t) (xs := (iN ns).map V.int) (fun i σ H' => Same H H' ∧ ∃ (st : Nat) (ts : List Str) (vt : V) (v6 v7 v8 : Option V), (ns.take i).foldl (stepW W) (some (st0, ts0)) = some (st, ts) ∧ Tp H' vt (.tuple (ts.map .str)) ∧
      σ = [some (.ref a), some (.ref sa), some (.ref t), some (.int st), some vt, v6, v7, v8]) ⟨Same.refl H, st0, ts0, vts, none, none, none, rfl, u3, rfl⟩ (fun i σ H' _ h => SqT.of (h.1 _ _ ht1)) ?_ ?_⟩
    · rintro i x σ H1 hi ⟨s1, st, ts, vt, v6, v7, v8, er, tvt, rfl⟩
      obtain ⟨kd, hkd, rfl⟩ : ∃ kd, ns[i]? = some kd ∧ x = V.int (kd : Nat) := by
        unfold iN at hi
        rw [List.map_map, List.getElem?_map] at hi
        cases e : ns[i]? with
        | none =>
          rw [e] at hi
          cases hi
        | some y =>
          rw [e] at hi
          exact ⟨y, rfl, (Option.some.inj hi).symm⟩
      have hk := hns kd (List.mem_of_getElem? hkd)
      have so := fold_ok hW (ns.take i) (some (st0, ts0)) n0 (fun j hj => hns j (List.mem_of_mem_take hj)) (fun st ts e => by cases e; exact hS0) st ts er
      obtain ⟨row, en, g1, g2, g3, g4⟩ := ent_at hW so.st hk
      obtain ⟨rv, w1, w2⟩ := tr2.at g1
      obtain ⟨rwa, rws, rfl, w3, w4⟩ := w2.tup_inv
      obtain ⟨ev, w5, w6⟩ := w4.at g2
      have step : (ns.take (i + 1)).foldl (stepW W) (some (st0, ts0)) = goE ts en := by
        rw [foldl_more (stepW W) _ hkd, er]
        exact congrArg (goE ts) g3
      refine ⟨_, rfl, a, _, _, _, rfl, rfl, SqT.of (s1 _ _ ha1), atI_nat (j := 1) rfl, _, rfl, ra, rx, _, _, rfl, rfl, SqT.of (s1 _ _ tr1), atI_nat w1, _, rfl, rwa, rws, _, _, rfl, rfl, SqT.of (s1 _ _ w3), atI_nat w5, ?_⟩
      refine ⟨_, rfl, _, rfl, ?_⟩
      cases en with
      | none =>
        obtain rfl := w6.non_inv
        refine iteT' (decide_eq_true rfl) ?_
        refine k _ _ s1 ?_
        have z : ns.foldl (stepW W) (some (st0, ts0)) = none := by
          have e2 : ns.foldl (stepW W) (some (st0, ts0)) = (ns.drop (i + 1)).foldl (stepW W) ((ns.take (i + 1)).foldl (stepW W) (some (st0, ts0))) := by
            rw [← List.foldl_append, List.take_append_drop]
          rw [e2, step]
          exact fold_none W _
        rw [z]
        exact .non
      | some y =>
        obtain ⟨tg, fs⟩ := y
        obtain ⟨ea, es, rfl, w7, w8⟩ := w6.tup_inv
        cases w8 with
        | @cons vtg x9 _ _ u1 u2 =>
        cases u2 with
        | @cons vfs x10 _ _ u3 u4 =>
        cases u4
        obtain rfl := u1.int_inv
        refine iteF' (decide_eq_false (fun z => by cases z)) ?_
        obtain ⟨g5, g6⟩ := g4 tg fs rfl
        refine ⟨_, rfl, ea, _, rfl, SqT.of (s1 _ _ w7), rfl, _, _, rfl, _, _, rfl, rfl, ?_⟩
        have bound : tot ts ≤ 900000 := by
          have e1 : (ns.take i).length ≤ 30 := by rw [List.length_take]; omega
          have := so.tot
          have := bd _ e1
          omega
        refine ⟨_, rfl, _, rfl, vfs, vt, fs, ts, Bf, rfl, u3.mono (Same.tk s1), tvt, g6, so.len, h50, bound, fun v H2 s2 tv => ?_⟩
        exact ⟨Same.trans s1 s2, tg, fs.map (mk ts), v, _, _, _, step, tv, rfl⟩
    · rintro σ H1 ⟨s1, st, ts, vt, v6, v7, v8, er, tvt, rfl⟩
      have e : ((iN ns).map V.int).length = ns.length := by
        unfold iN
        rw [List.length_map, List.length_map]
      rw [e, List.take_length] at er
      refine ⟨_, rfl, _, rfl, (by show 2 ≤ sizeLine; decide), fun u hu => k _ _ (Same.trans s1 (same_new hu)) ?_⟩
      rw [er]
      exact .tup upd_same (.cons (.int st) (.cons (tvt.mono (tk_new hu)) .nil))
end

/-! ### the program's texts, from any situation -/
theorem sc_text_from : FnScope ["writer", "situation", "word", "found"] ["writer", "situation", "word"] (fnScope st_text_from_) := fnScope_by (by decide +kernel)
theorem sc_text_for_ : FnScope ["writer", "word"] ["writer", "word"] (fnScope st_text_for_) := fnScope_by (by decide +kernel)
section
variable {P : Program} {w : World} {K : PySem.W.Frag} {mg : Str → Option Value} {base : Heap} {f : Addr} {fd : FuncData}
theorem cal_text_from_ (F : C8.Def K mg "text_from" st_text_from_ f fd) (b : Binds K fd ["writer", "situation", "word"] []) (Cb : Cal P w K mg base 3 "behind_from" spBehindF []) (Cm : Cal P w K mg base 1 "_made" spMade []) : Cal P w K mg base 4 "text_from" spTellF [] := by
  refine cal0 F b .nil sc_text_from (fun vs H Q E h => ?_) (fun cdv A outer s H vs Q E hr h => ?_)
  · obtain ⟨W, ns, st, ts, ⟨a, x, t, k, S, B, n, rfl, _⟩, _⟩ := h
    rfl
  · obtain ⟨W, ns, st0, ts0, ⟨a, x, t, kk, S, Bf, n0, rfl, ha, hx, ht, hW, hS0, hn0, h50, hns, hln⟩, k⟩ := h
    refine ⟨_, pss_cons (ps_set (i := 3) sc_text_from.nd rfl (Or.inl rfl) (pe_c Cb hr (by decide) (by rfl) (pa_cons (pv 0) (pa_cons (pv 1) (pa_cons (pv 2) pa_nil)))))
      (pss_cons (ps_if (PW.pt (pw_or (pt_cmp (pc_isN (pv 3))) (pw_or1 (pt_cmp (pc_isN (pe_ix ix_tup (pe_ix ix_tup (pv 0) pe_int (fun _ _ => rfl)) (pe_ix ix_tup (pv 3) pe_int (fun _ _ => rfl)) (fun _ _ => rfl))))))) (pss_one (ps_ret pe_non)) pss_nil)
      (pss_one (ps_ret (pe_c Cm hr (by decide) (by rfl) (pa_cons (pe_ix ix_tup (pe_ix ix_tup (pv 0) pe_int (fun _ _ => rfl)) (pe_ix ix_tup (pv 3) pe_int (fun _ _ => rfl)) (fun _ _ => rfl)) (pa_cons (pe_ix ix_tup (pv 3) pe_int (fun _ _ => rfl)) pa_nil)))))), ?_⟩
    refine ⟨_, rfl, _, rfl, _, rfl, W, ns, st0, ts0, ⟨a, x, t, kk, S, Bf, n0, rfl, ha, hx, ht, hW, hS0, hn0, h50, hns, hln⟩, fun sv H1 s1 tsv => ?_⟩
    refine ⟨_, rfl, _, rfl, ?_⟩
    cases er : ns.foldl (stepW W) (some (st0, ts0)) with
    | none =>
      rw [er] at tsv k
      obtain rfl := tsv.non_inv
      exact iteT' (decide_eq_true rfl) (iteT (k _ _ s1 .non))
    | some o =>
      obtain ⟨st, ts⟩ := o
      rw [er] at tsv k
      obtain ⟨sa, sx, rfl, h1, h2⟩ := tsv.tup_inv
      cases h2 with
      | @cons vst x1 _ _ u1 u2 =>
      cases u2 with
      | @cons vts x2 _ _ u3 u4 =>
      cases u4
      obtain rfl := u1.int_inv
      have so := fold_ok hW ns (some (st0, ts0)) n0 hns (fun st ts e => by cases e; exact hS0) st ts er
      have bd : n0 + 1000 * Bf * ns.length ≤ 600000 := by
        have e2 : 1000 * Bf * ns.length ≤ 1000 * 3 * 30 := Nat.mul_le_mul (Nat.mul_le_mul_left 1000 h50) hln
        omega
      obtain ⟨e, e1, e2, e3⟩ := end_at hW so.st
      obtain ⟨wa, wx, rfl, w1, w2⟩ := ha.tup_inv
      cases w2 with
      | @cons vb x3 _ _ tb w3 =>
      cases w3 with
      | @cons vr x4 _ _ tr w4 =>
      cases w4 with
      | @cons ve x5 _ _ te w5 =>
      cases w5
      obtain ⟨ea, ex, rfl, w6, w7⟩ := te.tup_inv
      obtain ⟨ev, w8, w9⟩ := w7.at e1
      have kt : tellO W (some (st, ts)) = e.map (mk ts) := by
        show (W.ends.getD st none).map (mk ts) = _
        rw [e2]
      rw [kt] at k
      refine iteF' (decide_eq_false (fun z => by cases z)) ?_
      refine ⟨_, rfl, wa, _, _, _, rfl, rfl, SqT.of (s1 _ _ w1), atI_nat (j := 2) rfl, _, rfl, sa, _, _, _, rfl, rfl, SqT.of h1, atI_nat (j := 0) rfl, ea, ex, _, _, rfl, rfl, SqT.of (s1 _ _ w6), atI_nat w8, _, rfl, ?_⟩
      cases e with
      | none =>
        obtain rfl := w9.non_inv
        exact iteT' (decide_eq_true rfl) (k _ _ s1 .non)
      | some r =>
        obtain ⟨g1, g2, g3⟩ := end_fits so (e3 r rfl) bd
        have ne : ev ≠ .non := by
          obtain ⟨ra, rx, rfl, _⟩ := w9.tup_inv
          intro z
          cases z
        refine iteF' (decide_eq_false ne) ?_
        refine ⟨_, rfl, wa, _, _, _, rfl, rfl, SqT.of (s1 _ _ w1), atI_nat (j := 2) rfl, _, rfl, sa, _, _, _, rfl, rfl, SqT.of h1, atI_nat (j := 0) rfl, ea, ex, _, _, rfl, rfl, SqT.of (s1 _ _ w6), atI_nat w8, ?_⟩
        refine ⟨_, rfl, sa, _, _, _, rfl, rfl, SqT.of h1, atI_nat (j := 1) rfl, ev, vts, r, ts, rfl, w9.mono (Same.tk s1), u3, g1, g2, g3, fun H2 s2 => k _ _ (Same.trans s1 s2) ?_⟩
        exact .str _
theorem cal_text_for_ (F : C8.Def K mg "text_for" st_text_for_ f fd) (b : Binds K fd ["writer", "word"] []) (Ct : Cal P w K mg base 4 "text_from" spTellF []) : Cal P w K mg base 5 "text_for" spTell [] := by
  refine cal0 F b .nil sc_text_for_ (fun vs H Q E h => ?_) (fun cdv A outer s H vs Q E hr h => ?_)
  · obtain ⟨a, t, W, ns, k, S, B, rfl, _⟩ := h
    rfl
  · obtain ⟨a, t, W, ns, kk, S, Bf, rfl, ha, ht, hW, hS, h50, hns, hln, k⟩ := h
    have ha0 := ha
    obtain ⟨a, xs, rfl, ha1, ha2⟩ := ha.tup_inv
    cases ha2 with
    | @cons vb x2 _ _ tb h2 =>
    refine ⟨_, pss_one (ps_ret (pe_c Ct hr (by decide) (by rfl) (pa_cons (pv 0) (pa_cons (pe_tup (pa_cons pe_int (pa_cons (pe_ix ix_tup (pv 0) pe_int (fun _ _ => rfl)) pa_nil))) (pa_cons (pv 1) pa_nil))))), ?_⟩
    refine ⟨_, rfl, _, rfl, a, _, _, _, rfl, rfl, SqT.of ha1, atI_nat (j := 0) rfl, (by show 2 ≤ sizeLine; decide), fun u hu => ⟨_, rfl, ?_⟩⟩
    have s0 := same_new (o := .tup [.int 0, vb]) hu
    refine ⟨W, ns, 0, W.begins, ⟨_, _, _, kk, S, Bf, 2 * Bf, rfl, ha0.mono (Same.tk s0), .tup upd_same (.cons (.int 0) (.cons (tb.mono (Same.tk s0)) .nil)), ht.mono (Same.tk s0), hW, begin_ok hW hS, by omega, h50, hns, hln⟩, fun v H' s1 tv => k v H' (Same.trans s0 s1) ?_⟩
    rw [tell_O]
    exact tv
end

def spOnward : Sp := fun vs H Q _ => ∃ (a x : V) (W : Wr) (o : Option (Nat × List Str)) (k S B kd n : Nat), vs = [a, x, .int kd] ∧ Tp H a W.d ∧ Tp H x (sitD o) ∧ WOkB k S B W ∧ (∀ st ts, o = some (st, ts) → SOk S B n st ts) ∧ n ≤ 600000 ∧ B ≤ 3 ∧ kd < k ∧
  ∀ (v : V) H', Same H H' → Tp H' v (sitD (stepW W o kd)) → Q v H'
theorem sc_onward : FnScope ["writer", "situation", "kind", "entry", "recipe"] ["writer", "situation", "kind"] (fnScope st_law_onward) := fnScope_by (by decide +kernel)
theorem sc_lbehind : FnScope ["writer", "word", "situation", "kind"] ["writer", "word"] (fnScope st_law_behind) := fnScope_by (by decide +kernel)
section
variable {P : Program} {w : World} {K : PySem.W.Frag} {mg : Str → Option Value} {base : Heap} {f : Addr} {fd : FuncData}
theorem cal_onward (F : C8.Def K mg "_law_onward" st_law_onward f fd) (b : Binds K fd ["writer", "situation", "kind"] []) (B : BN2 mg) (Cm : Cal P w K mg base 1 "_law_made" spMade []) : Cal P w K mg base 2 "_law_onward" spOnward [] := by
  refine cal0 F b .nil sc_onward (fun vs H Q E h => ?_) (fun cdv A outer s H vs Q E hr h => ?_)
  · obtain ⟨a, x, W, o, k, S, B, kd, n, rfl, _⟩ := h
    rfl
  · obtain ⟨a, x, W, o, kk, S, Bf, kd, n, rfl, ha, hx, hW, ho, hn, h50, hk, k⟩ := h
    refine ⟨_, pss_cons (ps_if (pt_cmp (pc_isN (pv 1))) (pss_one (ps_ret pe_non)) pss_nil)
      (pss_cons (ps_set (i := 3) sc_onward.nd rfl (Or.inl rfl) (pe_ix ix_tup (pe_ix ix_tup (pe_ix ix_tup (pv 0) pe_int (fun _ _ => rfl)) (pe_ix ix_tup (pv 1) pe_int (fun _ _ => rfl)) (fun _ _ => rfl)) (pv 2) (fun _ _ => rfl)))
      (pss_cons (ps_if (pt_cmp (pc_isN (pv 3))) (pss_one (ps_ret pe_non)) pss_nil)
      (pss_one (ps_ret (pe_tup (pa_cons (pe_ix ix_tup (pv 3) pe_int (fun _ _ => rfl)) (pa_cons (pe_callTy call_tuple_of (by rfl) B.tuple (by decide +kernel) (pa_cons (pe_lc (own := [("recipe", 4)]) (g := gName 4) (tt := tYes) (by rfl) sc_onward.nd (pi_tup (pe_ix ix_tup (pv 3) pe_int (fun _ _ => rfl)))
        (blkOk_by (own := [("recipe", 4)]) (N := ["writer", "situation", "kind", "entry", "recipe"]) (sc := fnScope st_law_onward) (by decide +kernel)) (fun _ _ _ _ _ => pg_name (i := 4) sc_onward.nd rfl (Or.inl rfl)) (fun _ _ _ _ _ => pts_nil)
        (fun _ _ _ _ _ => pe_c Cm hr (by decide) (by rfl) (pa_cons (pv 4) (pa_cons (pe_ix (ix_tupK K) (pv 1) pe_int (fun _ _ => rfl)) pa_nil)))) pa_nil)) pa_nil))))))), ?_⟩
    refine ⟨_, rfl, _, rfl, ?_⟩
    cases o with
    | none =>
      obtain rfl := hx.non_inv
      exact iteT' (decide_eq_true rfl) (k _ _ (Same.refl H) .non)
    | some o =>
      obtain ⟨st, ts⟩ := o
      have so := ho st ts rfl
      obtain ⟨sa, sx, rfl, h1, h2⟩ := hx.tup_inv
      cases h2 with
      | @cons vst x1 _ _ u1 u2 =>
      cases u2 with
      | @cons vts x2 _ _ u3 u4 =>
      cases u4
      obtain rfl := u1.int_inv
      obtain ⟨wa, wx, rfl, w1, w2⟩ := ha.tup_inv
      cases w2 with
      | @cons vb x3 _ _ tb w3 =>
      cases w3 with
      | @cons vr x4 _ _ tr w4 =>
      obtain ⟨ra, rx, rfl, tr1, tr2⟩ := tr.tup_inv
      obtain ⟨row, en, g1, g2, g3, g4⟩ := ent_at hW so.st hk
      obtain ⟨rv, y1, y2⟩ := tr2.at g1
      obtain ⟨rwa, rws, rfl, y3, y4⟩ := y2.tup_inv
      obtain ⟨ev, y5, y6⟩ := y4.at g2
      have step : stepW W (some (st, ts)) kd = goE ts en := congrArg (goE ts) g3
      rw [step] at k
      refine iteF' (decide_eq_false (fun z => by cases z)) ?_
      refine ⟨_, rfl, wa, _, _, _, rfl, rfl, SqT.of w1, atI_nat (j := 1) rfl, _, rfl, sa, _, _, _, rfl, rfl, SqT.of h1, atI_nat (j := 0) rfl, ra, rx, _, _, rfl, rfl, SqT.of tr1, atI_nat y1, _, rfl, rwa, rws, _, _, rfl, rfl, SqT.of y3, atI_nat y5, ?_⟩
      refine ⟨_, rfl, _, rfl, ?_⟩
      cases en with
      | none =>
        obtain rfl := y6.non_inv
        exact iteT' (decide_eq_true rfl) (k _ _ (Same.refl H) .non)
      | some y =>
        obtain ⟨tg, fs⟩ := y
        obtain ⟨ea, es, rfl, y7, y8⟩ := y6.tup_inv
        cases y8 with
        | @cons vtg x9 _ _ z1 z2 =>
        cases z2 with
        | @cons vfs x10 _ _ z3 z4 =>
        cases z4
        obtain rfl := z1.int_inv
        obtain ⟨fa, fx, rfl, f1, f2⟩ := z3.tup_inv
        obtain ⟨g5, g6⟩ := g4 tg fs rfl
        refine iteF' (decide_eq_false (fun z => by cases z)) ?_
        refine ⟨_, rfl, ea, _, _, _, rfl, rfl, SqT.of y7, atI_nat (j := 0) rfl, ?_⟩
        refine ⟨_, rfl, ea, _, _, _, rfl, rfl, SqT.of y7, atI_nat (j := 1) rfl, fa, rfl, ⟨_, SqT.of f1⟩, fun D hD => ?_⟩
        have lenx : fx.length = fs.length := by rw [f2.len, List.length_map]
        refine lc_tup (K := K) (a := fa) (xs := fx) (fun i H' => Same H H' ∧ H' D = some (.lst (((fs.take i).map (mk ts)).map V.str))) ⟨same_new hD, upd_same⟩ (fun i H' _ h => SqT.of (h.1 _ _ f1)) ?_ ?_
        · rintro i x H1 hi ⟨s1, hL⟩
          have hlt : i < fs.length := by
            have := (List.getElem?_eq_some_iff.mp hi).1
            omega
          obtain ⟨v, hv, tv⟩ := f2.at (List.getElem?_eq_getElem hlt)
          rw [hi] at hv
          cases hv
          have mem := List.getElem_mem hlt
          have tot9 : tot ts ≤ 900000 := Nat.le_trans so.tot (Nat.le_trans hn (by decide))
          obtain ⟨m1, m2, m3⟩ := fills_one g6 so.len tot9 h50 mem
          refine ⟨rfl, ?_⟩
          refine ⟨_, rfl, _, rfl, sa, _, _, _, rfl, rfl, SqT.of (s1 _ _ h1), atI_nat (j := 1) rfl, x, vts, fs[i], ts, rfl, tv.mono (Same.tk s1), u3.mono (Same.tk s1), m1, m2, m3, fun H2 s2 => ?_⟩
          refine ⟨_, s2 _ _ hL, ?_, Same.put (Same.trans s1 s2) hD, ?_⟩
          · rw [List.length_map, List.length_map, List.length_take]
            exact Nat.lt_of_le_of_lt (Nat.le_trans (Nat.min_le_right _ _) (show fs.length ≤ 3 by rw [g6.len]; exact h50)) (by decide)
          · rw [upd_same, take_map_more (List.getElem?_eq_getElem hlt), List.map_append]
            rfl
        · rintro H1 ⟨s1, hL⟩
          rw [lenx, List.take_length] at hL
          refine ⟨D, _, rfl, .inl ⟨SqL.of hL, fun u hu => ⟨(by show 2 ≤ sizeLine; decide), fun q hq => ?_⟩⟩⟩
          refine k _ _ (Same.trans (Same.trans s1 (same_new hu)) (same_new hq)) (.tup upd_same (.cons (.int tg) (.cons (.tup ?_ (TpAll.map fun z _ => .str z)) .nil)))
          exact tk_new hq _ _ upd_same
theorem cal_lbehind (F : C8.Def K mg "_law_behind" st_law_behind f fd) (b : Binds K fd ["writer", "word"] []) (Co : Cal P w K mg base 2 "_law_onward" spOnward []) : Cal P w K mg base 3 "_law_behind" spBehind [] := by
  refine cal0 F b .nil sc_lbehind (fun vs H Q E h => ?_) (fun cdv A outer s H vs Q E hr h => ?_)
  · obtain ⟨a, t, W, ns, k, S, B, rfl, _⟩ := h
    rfl
  · obtain ⟨a, t, W, ns, kk, S, Bf, rfl, ha, ht, hW, hS, h50, hns, hln, k⟩ := h
    obtain ⟨a, xs, rfl, ha1, ha2⟩ := ha.tup_inv
    cases ha2 with
    | @cons vb x2 _ _ tb h2 =>
    obtain ⟨t, rfl, ht1⟩ := ht.word_inv
    refine ⟨_, pss_cons (ps_set (i := 2) sc_lbehind.nd rfl (Or.inl rfl) (pe_tup (pa_cons pe_int (pa_cons (pe_ix ix_tup (pv 0) pe_int (fun _ _ => rfl)) pa_nil))))
      (pss_cons (ps_for PassesOwn.never rfl (pi_tup (pv 1)) (pg_name (i := 3) sc_lbehind.nd rfl (Or.inl rfl))
        (pss_one (ps_set (i := 2) sc_lbehind.nd rfl (Or.inl rfl) (pe_c Co hr (by decide) (by rfl) (pa_cons (pv 0) (pa_cons (pv 2) (pa_cons (pv 3) pa_nil)))))))
      (pss_one (ps_ret (pv 2)))), ?_⟩
    refine ⟨_, rfl, a, _, _, _, rfl, rfl, SqT.of ha1, atI_nat (j := 0) rfl, (by show 2 ≤ sizeLine; decide), fun u hu => ?_⟩
    have s0 := same_new (o := .tup [.int 0, vb]) hu
    refine ⟨_, rfl, t, rfl, ⟨_, SqT.of (s0 _ _ ht1)⟩, for_tup (K := K) (a := t) (xs := (iN ns).map V.int) (fun i σ H' => Same H H' ∧ ∃ (x : V) (v3 : Option V), Tp H' x (sitD (runW W (ns.take i))) ∧ σ = [some (.ref a), some (.ref t), some x, v3])
      ⟨s0, .ref u, none, .tup upd_same (.cons (.int 0) (.cons (tb.mono (Same.tk s0)) .nil)), rfl⟩ (fun i σ H' _ h => SqT.of (h.1 _ _ ht1)) ?_ ?_⟩
    · rintro i x σ H1 hi ⟨s1, y, v3, ty, rfl⟩
      obtain ⟨kd, hkd, rfl⟩ : ∃ kd, ns[i]? = some kd ∧ x = V.int (kd : Nat) := by
        unfold iN at hi
        rw [List.map_map, List.getElem?_map] at hi
        cases e : ns[i]? with
        | none =>
          rw [e] at hi
          cases hi
        | some y =>
          rw [e] at hi
          exact ⟨y, rfl, (Option.some.inj hi).symm⟩
      have hk := hns kd (List.mem_of_getElem? hkd)
      have tl : (ns.take i).length ≤ 30 := by rw [List.length_take]; omega
      refine ⟨_, rfl, _, rfl, _, rfl, .ref a, y, W, runW W (ns.take i), kk, S, Bf, kd, _, rfl, ha.mono (Same.tk s1), ty, hW, run_ok hW hS (fun j hj => hns j (List.mem_of_mem_take hj)), bound9 h50 tl, h50, hk, fun v H2 s2 tv => ⟨Same.trans s1 s2, v, _, ?_, rfl⟩⟩
      rw [run_more W hkd]
      exact tv
    · rintro σ H1 ⟨s1, y, v3, ty, rfl⟩
      have e : ((iN ns).map V.int).length = ns.length := by
        unfold iN
        rw [List.length_map, List.length_map]
      rw [e, List.take_length] at ty
      exact ⟨_, rfl, k _ _ s1 ty⟩
end

theorem sc_told : FnScope ["writer", "word", "situation"] ["writer", "word"] (fnScope st_law_told) := fnScope_by (by decide +kernel)
section
variable {P : Program} {w : World} {K : PySem.W.Frag} {mg : Str → Option Value} {base : Heap} {f : Addr} {fd : FuncData}
theorem cal_told (F : C8.Def K mg "_law_told" st_law_told f fd) (b : Binds K fd ["writer", "word"] []) (Cb : Cal P w K mg base 3 "_law_behind" spBehind []) (Cm : Cal P w K mg base 1 "_law_made" spMade []) : Cal P w K mg base 4 "_law_told" spTell [] := by
  refine cal0 F b .nil sc_told (fun vs H Q E h => ?_) (fun cdv A outer s H vs Q E hr h => ?_)
  · obtain ⟨a, t, W, ns, k, S, B, rfl, _⟩ := h
    rfl
  · obtain ⟨a, t, W, ns, kk, S, Bf, rfl, ha, ht, hW, hS, h50, hns, hln, k⟩ := h
    refine ⟨_, pss_cons (ps_set (i := 2) sc_told.nd rfl (Or.inl rfl) (pe_c Cb hr (by decide) (by rfl) (pa_cons (pv 0) (pa_cons (pv 1) pa_nil))))
      (pss_cons (ps_if (PW.pt (pw_or (pt_cmp (pc_isN (pv 2))) (pw_or1 (pt_cmp (pc_isN (pe_ix ix_tup (pe_ix ix_tup (pv 0) pe_int (fun _ _ => rfl)) (pe_ix ix_tup (pv 2) pe_int (fun _ _ => rfl)) (fun _ _ => rfl))))))) (pss_one (ps_ret pe_non)) pss_nil)
      (pss_one (ps_ret (pe_c Cm hr (by decide) (by rfl) (pa_cons (pe_ix ix_tup (pe_ix ix_tup (pv 0) pe_int (fun _ _ => rfl)) (pe_ix ix_tup (pv 2) pe_int (fun _ _ => rfl)) (fun _ _ => rfl)) (pa_cons (pe_ix ix_tup (pv 2) pe_int (fun _ _ => rfl)) pa_nil)))))), ?_⟩
    refine ⟨_, rfl, _, rfl, a, t, W, ns, kk, S, Bf, rfl, ha, ht, hW, hS, h50, hns, hln, fun sv H1 s1 tsv => ?_⟩
    refine ⟨_, rfl, _, rfl, ?_⟩
    cases er : runW W ns with
    | none =>
      rw [er] at tsv
      obtain rfl := tsv.non_inv
      refine iteT' (decide_eq_true rfl) (iteT (k _ _ s1 ?_))
      rw [tell_none er]
      exact .non
    | some o =>
      obtain ⟨st, ts⟩ := o
      rw [er] at tsv
      obtain ⟨sa, sx, rfl, h1, h2⟩ := tsv.tup_inv
      cases h2 with
      | @cons vst x1 _ _ u1 u2 =>
      cases u2 with
      | @cons vts x2 _ _ u3 u4 =>
      cases u4
      obtain rfl := u1.int_inv
      have so := run_ok hW hS hns st ts er
      obtain ⟨e, e1, e2, e3⟩ := end_at hW so.st
      obtain ⟨wa, wx, rfl, w1, w2⟩ := ha.tup_inv
      cases w2 with
      | @cons vb x3 _ _ tb w3 =>
      cases w3 with
      | @cons vr x4 _ _ tr w4 =>
      cases w4 with
      | @cons ve x5 _ _ te w5 =>
      cases w5
      obtain ⟨ea, ex, rfl, w6, w7⟩ := te.tup_inv
      obtain ⟨ev, w8, w9⟩ := w7.at e1
      refine iteF' (decide_eq_false (fun z => by cases z)) ?_
      refine ⟨_, rfl, wa, _, _, _, rfl, rfl, SqT.of (s1 _ _ w1), atI_nat (j := 2) rfl, _, rfl, sa, _, _, _, rfl, rfl, SqT.of h1, atI_nat (j := 0) rfl, ea, ex, _, _, rfl, rfl, SqT.of (s1 _ _ w6), atI_nat w8, _, rfl, ?_⟩
      cases e with
      | none =>
        obtain rfl := w9.non_inv
        refine iteT' (decide_eq_true rfl) (k _ _ s1 ?_)
        rw [tell_some er, e2]
        exact .non
      | some r =>
        obtain ⟨g1, g2, g3⟩ := end_fits so (e3 r rfl) (bound9 h50 hln)
        have ne : ev ≠ .non := by
          obtain ⟨ra, rx, rfl, _⟩ := w9.tup_inv
          intro z
          cases z
        refine iteF' (decide_eq_false ne) ?_
        refine ⟨_, rfl, wa, _, _, _, rfl, rfl, SqT.of (s1 _ _ w1), atI_nat (j := 2) rfl, _, rfl, sa, _, _, _, rfl, rfl, SqT.of h1, atI_nat (j := 0) rfl, ea, ex, _, _, rfl, rfl, SqT.of (s1 _ _ w6), atI_nat w8, ?_⟩
        refine ⟨_, rfl, sa, _, _, _, rfl, rfl, SqT.of h1, atI_nat (j := 1) rfl, ev, vts, r, ts, rfl, w9.mono (Same.tk s1), u3, g1, g2, g3, fun H2 s2 => k _ _ (Same.trans s1 s2) ?_⟩
        rw [tell_some er, e2]
        exact .str _
end

/-! ### () * k is () itself -/
section
open PySem.Spec PyProof.Rows
theorem mul_of_empty (l : Addr) (n : Nat) (dd : Option Addr) (sl : Array (Option Value)) (x : Int) (u : Tok) (small : (decide (x < -(2 ^ 63)) || decide (x ≥ 2 ^ 63)) = false) :
    Meets (Builtin.«tuple.__mul__» ⟨[.ref l, .int x u], []⟩) (fun _ R s => s.heap.get? l = some { cls := .type "tuple", dict := dd, data := .seq #[] n, slots := sl } ∧ R (.ok (.ret (Value.ref l))) s) :=
  .of_wp fun _ _ _ _ s h => by
    obtain ⟨heap, gs, dr, tk, os⟩ := s
    obtain ⟨look, fin⟩ := h
    have f1 := AutoSeq1.idx_int
    (wp_walk using wpAny_loadPart' look)
    repeat (first
      | (refine wpAny_ite_false (decide_eq_false (by rw [small]; exact Bool.false_ne_true)) ?_; (wp_walk using wpAny_loadPart' look))
      | (refine wpAny_ite_true (decide_eq_true rfl) ?_; (wp_walk using wpAny_loadPart' look)))
    exact ⟨_, rfl, fin⟩
def rRep0 (K : PySem.W.Frag) : R2 := fun x y H Q => ∃ (l : Addr) (k : Int), x = .ref l ∧ y = .int k ∧ SqT K H l [] ∧ 2 ≤ k ∧ k ≤ 1000 ∧ Q (.ref l) H
theorem op_rep0 {X : Cx} : OpR X (binaryOp .Mult) (rRep0 X.K) := by
  intro pins s σ H x y v u Q I rx ry given
  obtain ⟨l, k, rfl, rfl, hT, h1, h2, q⟩ := given
  cases rx
  obtain ⟨t, rfl⟩ := ry
  obtain ⟨_, r, ⟨⟨cl, dd, da, sl⟩, ho, hc, n, hd⟩, _⟩ := I.tuple hT
  cases r
  simp only at hc hd
  subst hc hd
  have small : (decide (k < -(2 ^ 63)) || decide (k ≥ 2 ^ 63)) = false := by
    rw [decide_eq_false (by omega), decide_eq_false (by omega), Bool.or_false]
  exact wpAny_binaryOp_repeat_ref (T := "tuple") (U := "int") (by decide) ⟨_, ho, rfl⟩ (fun s' => typeIs_int s' k t) noFill_tuple_mul F.fills_int_mul F.slot_int_rmul repeat_tuple F.slot_int_index.lookup
    (call_meets F.slot_int_rmul (typeIs_int s k t) F.entry_int_rmul (F.args_int_rmul_2 _ _) (int_rmul_tuple k t l #[] n dd sl)
      ⟨ho, rfl, ⟨_, ho, rfl⟩, call_meets F.slot_tuple_mul ⟨_, ho, rfl⟩ F.entry_tuple_mul (F.args_tuple_mul_2 _ _) (mul_of_empty l n dd sl k t small) ⟨ho, .ref l, H, I, rfl, q⟩⟩)
end
theorem rep_words (n : Nat) (ns : List Nat) : (List.replicate n ((iN ns).map V.int)).flatten = (iN (List.replicate n ns).flatten).map V.int := by
  induction n with
  | zero => rfl
  | succ n ih =>
    rw [List.replicate_succ, List.flatten_cons, ih, List.replicate_succ, List.flatten_cons]
    unfold iN
    rw [List.map_append, List.map_append]

/-! ### slices and sums of tuples as data; texts times a number; what may be a list or a tuple -/
theorem cut_take (xs : List V) (k : Nat) (h : k ≤ xs.length) : cutV xs none (some (k : Int)) = xs.take k := by
  unfold cutV
  rw [HT.sIx_none, HT.sIx_nat, List.drop_zero, Nat.sub_zero, Nat.min_eq_left h]
theorem cut_drop (xs : List V) (k : Nat) (h : k ≤ xs.length) : cutV xs (some (k : Int)) none = xs.drop k := by
  unfold cutV
  rw [HT.sIx_none, HT.sIx_nat, Nat.min_eq_left h]
  exact List.take_of_length_le (by rw [List.length_drop]; exact Nat.le_refl _)
theorem TpAll.take {H : Hp} : ∀ {vs : List V} {ds : List PyData} (k : Nat), TpAll H vs ds → TpAll H (vs.take k) (ds.take k)
  | _, _, 0, _ => .nil
  | _, _, _ + 1, .nil => .nil
  | _, _, k + 1, .cons h hs => .cons h (TpAll.take k hs)
theorem TpAll.drop {H : Hp} : ∀ {vs : List V} {ds : List PyData} (k : Nat), TpAll H vs ds → TpAll H (vs.drop k) (ds.drop k)
  | _, _, 0, h => h
  | _, _, _ + 1, .nil => .nil
  | _, _, k + 1, .cons _ hs => TpAll.drop k hs
/-- t[:k] -/
theorem sl_take {K : PySem.W.Frag} {H : Hp} {x : V} {ds : List PyData} {k : Nat} {Q : VK} (hx : Tp H x (.tuple ds)) (hk : k ≤ ds.length) (h : ∀ (v : V) H', Same H H' → Tp H' v (.tuple (ds.take k)) → Q v H') : rSlA K x none (some (k : Int)) H Q := by
  obtain ⟨a, xs, rfl, h1, h2⟩ := hx.tup_inv
  have hk' : k ≤ xs.length := by rw [h2.len]; exact hk
  refine ⟨a, xs, rfl, SqT.of h1, fun ⟨_, e⟩ => ?_, fun _ p hp => ?_⟩
  · rw [HT.sIx_nat, Nat.min_eq_left hk'] at e
    refine h _ _ (Same.refl H) (.tup h1 ?_)
    rw [List.take_of_length_le (by rw [← h2.len, e]; exact Nat.le_refl _)]
    exact h2
  · refine h _ _ (same_new hp) (.tup upd_same ?_)
    rw [cut_take xs k hk']
    exact (h2.take k).mono (tk_new hp)
/-- t[k:] -/
theorem sl_drop {K : PySem.W.Frag} {H : Hp} {x : V} {ds : List PyData} {k : Nat} {Q : VK} (hx : Tp H x (.tuple ds)) (hk : k ≤ ds.length) (h : ∀ (v : V) H', Same H H' → Tp H' v (.tuple (ds.drop k)) → Q v H') : rSlA K x (some (k : Int)) none H Q := by
  obtain ⟨a, xs, rfl, h1, h2⟩ := hx.tup_inv
  have hk' : k ≤ xs.length := by rw [h2.len]; exact hk
  refine ⟨a, xs, rfl, SqT.of h1, fun ⟨e, _⟩ => ?_, fun _ p hp => ?_⟩
  · rw [HT.sIx_nat, Nat.min_eq_left hk'] at e
    refine h _ _ (Same.refl H) (.tup h1 ?_)
    rw [e, List.drop_zero]
    exact h2
  · refine h _ _ (same_new hp) (.tup upd_same ?_)
    rw [cut_drop xs k hk']
    exact (h2.drop k).mono (tk_new hp)
/-- t + u -/
theorem cat_tp {K : PySem.W.Frag} {H : Hp} {x y : V} {ds es : List PyData} {Q : VK} (hx : Tp H x (.tuple ds)) (hy : Tp H y (.tuple es)) (n1 : ds.length ≤ 10000) (n2 : es.length ≤ 10000) (h : ∀ (v : V) H', Same H H' → Tp H' v (.tuple (ds ++ es)) → Q v H') : rCatA K x y H Q := by
  obtain ⟨a, xs, rfl, h1, h2⟩ := hx.tup_inv
  obtain ⟨b, ys, rfl, g1, g2⟩ := hy.tup_inv
  have e1 := h2.len
  have e2 := g2.len
  refine ⟨a, b, xs, ys, rfl, rfl, SqT.of h1, SqT.of g1, Nat.le_trans (show xs.length + ys.length ≤ 20000 by omega) (by decide), fun z => ?_, fun _ z => ?_, fun _ _ p hp => ?_⟩
  · subst z
    cases h2
    exact h _ _ (Same.refl H) (.tup g1 g2)
  · subst z
    cases g2
    refine h _ _ (Same.refl H) (.tup h1 ?_)
    rw [List.append_nil]
    exact h2
  · exact h _ _ (same_new hp) (.tup upd_same ((h2.app g2).mono (tk_new hp)))
theorem sl_tupAK {X : Cx} (K : PySem.W.Frag) (h : X.K = K := by rfl) : SlR X (rSlA K) := by
  rw [← h]
  exact sl_tupA
/-- one sign, so often -/
def rowOf (c : Nat) (n : Nat) : Str := ⟨(List.replicate n c).toArray⟩
theorem rowOf_len (c n : Nat) : (rowOf c n).length = n := by
  show (List.replicate n c).toArray.size = n
  rw [List.size_toArray, List.length_replicate]
theorem rowOf_low {c n : Nat} (h : 97 ≤ c ∧ c ≤ 122) : ∀ z ∈ (rowOf c n).cps.toList, 97 ≤ z ∧ z ≤ 122 := by
  intro z hz
  have hz' : z ∈ List.replicate n c := hz
  rw [List.eq_of_mem_replicate hz']
  exact h
theorem rep_sign (c : Nat) : ∀ (n : Nat) (acc : Array Nat), (List.replicate n #[c]).foldl (· ++ ·) acc = acc ++ (List.replicate n c).toArray
  | 0, acc => by
    show acc = acc ++ #[]
    rw [Array.append_empty]
  | n + 1, acc => by
    rw [List.replicate_succ, List.foldl_cons, rep_sign c n]
    refine Array.toList_inj.mp ?_
    rw [Array.toList_append, Array.toList_append, Array.toList_append, List.replicate_succ, List.append_assoc]
    rfl
def rMulS : R2 := fun x y H Q => ∃ (c : Nat) (n : Nat), x = .str ⟨#[c]⟩ ∧ y = .int n ∧ 2 ≤ n ∧ n ≤ 100000 ∧ Q (.str (rowOf c n)) H
section
open PySem.Spec PyProof.Rows
theorem op_mulS {X : Cx} : OpR X (binaryOp .Mult) rMulS := by
  intro pins s σ H x y v u Q I rx ry given
  obtain ⟨c, n, rfl, rfl, n2, big, q⟩ := given
  obtain ⟨t, rfl⟩ := rx
  obtain ⟨t2, rfl⟩ := ry
  have one : ((⟨#[c]⟩ : Str).length) = 1 := rfl
  refine PySem.P.mul_str ?_ (fun _ _ => ?_) (fun _ _ => ?_) ?_
  · rw [decide_eq_false (by omega), decide_eq_false (by omega)]
    rfl
  · rw [one]
    have h1 : (1 : Int) ≤ (2 ^ 63 - 1) / (n : Int) := (Int.le_ediv_iff_mul_le (by omega)).mpr (by omega)
    exact Int.not_lt.mpr h1
  · rw [one, Nat.one_mul, Int.toNat_natCast]
    unfold Builtin.Str.tooLong
    exact decide_eq_false (Nat.not_lt.mpr (Nat.le_trans big (by decide)))
  · have e1 : ¬ (n : Int) < 1 := by omega
    have e2 : ((n : Int) == 1 || (⟨#[c]⟩ : Str).length == 0) = false := by
      rw [one, Bool.or_eq_false_iff]
      exact ⟨beq_eq_false_iff_ne.mpr (by omega), rfl⟩
    rw [if_neg e1, if_neg (by rw [e2]; exact Bool.false_ne_true), Int.toNat_natCast]
    have e3 : (⟨(List.replicate n (⟨#[c]⟩ : Str).cps).foldl (· ++ ·) #[]⟩ : Str) = rowOf c n := by
      refine Str.ext' ?_
      show (List.replicate n #[c]).foldl (· ++ ·) #[] = (List.replicate n c).toArray
      rw [rep_sign, Array.empty_append]
    rw [e3]
    refine ⟨?_, .str _, H, I.tok _, ⟨_, rfl⟩, q⟩
    rw [rowOf_len]
    exact Nat.le_trans big (by decide)
/-- a walk over what is a list or a tuple -/
theorem pi_any {X : Cx} {tg l : Expr} {tl : TE} (h : PE X l tl) : PI X tg l (fun σ H R => iList X.K tl σ H R ∨ iTup X.K tl σ H R) :=
  ⟨fun pins s σ H R I q => q.elim (fun z => (pi_list (tg := tg) h).run pins s σ H R I z) (fun z => (pi_tup (tg := tg) h).run pins s σ H R I z)⟩
end
/-- a walk over a tuple, whatever is done with the items -/
theorem walk_tup {K : PySem.W.Frag} {a : Addr} {xs : List V} {body : V → Hp → (Hp → Prop) → Prop} {H0 : Hp} {Qd : Hp → Prop} (Pv : Nat → Hp → Prop) (h0 : Pv 0 H0) (hl : ∀ i H, i ≤ xs.length → Pv i H → SqT K H a xs)
    (hs : ∀ i x H, xs[i]? = some x → Pv i H → body x H (Pv (i + 1))) (hd : ∀ H, Pv xs.length H → Qd H) :
    ∃ W : Nat → Nat → Hp → Prop, (∃ m, W 0 m H0) ∧ ∀ i m H, W i m H → ((Itt K a).stop i H ∧ Qd H) ∨ ((Itt K a).go i H ∧ ∃ Nx : Hp → Prop, (∀ H', Nx H' → ∃ m', m' < m ∧ W (i + 1) m' H') ∧ ∀ x H', (Itt K a).yld i H x H' → body x H' Nx) := by
  refine ⟨fun i m H => m = xs.length - i ∧ i ≤ xs.length ∧ Pv i H, ⟨xs.length, rfl, Nat.zero_le _, h0⟩, fun i m H ⟨em, hi, p⟩ => ?_⟩
  have at_a := hl i H hi p
  rcases Nat.lt_or_eq_of_le hi with lt | eq
  · refine .inr ⟨⟨xs, xs[i], at_a, List.getElem?_eq_getElem lt⟩, Pv (i + 1), fun H' p' => ⟨xs.length - (i + 1), by omega, rfl, lt, p'⟩, fun x H' y => ?_⟩
    obtain ⟨e, y⟩ := y
    rw [e]
    exact hs i x H (y xs at_a) p
  · refine .inl ⟨⟨xs, at_a, Nat.le_of_eq eq.symm⟩, hd H ?_⟩
    rw [← eq]
    exact p

theorem pg_tupK {X : Cx} (K : PySem.W.Frag) {es : List Expr} {k : Nat} {t : TGs} {n : Nat} {pos : Pos} (hc : X.calm = true) (h : PGs X es t) (e : X.K = K := by rfl)
    (hn : (assignEach es X.env).length = n := by rfl) (hst : (assignEach es X.env).findIdx? (·.1) = none := by rfl) : PG X (.Tuple es k pos) (gTup K n t) := by
  rw [← e]
  exact pg_tup hc h hn hst

/-! ### enumerate over a tuple -/
namespace ET
open PySem PySem.Spec PyProof.Rows L2
open PySem.Sem (wp)
theorem draws_tuple {prog : Program} {w : World} {A : Around} (hh : A.handled = none) (it l : Addr) (hne : l ≠ it) (items : Array Value) :
    Draws prog w A it [it, l] items.size (fun i v => items[i]? = some v) (fun i h => h.IsTupleIter it l i ∧ h.IsTuple l items) where
  live := fun _ _ st => let ⟨o, ho, _⟩ := st.1; ⟨o, ho⟩
  frame := fun _ _ _ st hk => ⟨st.1.at fun o e => hk it (by simp) o e, let ⟨o, ho, r⟩ := st.2; ⟨o, hk l (by simp) o ho, r⟩⟩
  item := fun i s Q E hi st hQ => by
    refine RZ.nextOf_tuple_item st.1 st.2 (x := items[i]) (by simp [hi]) fun h' hit' hs' => ?_
    exact hQ _ h' s.toks (by simp [hi]) ⟨hit', st.2.extBut hs'.extBut hne⟩ hs'
  done := fun s Q E st hE => RZ.nextOf_tuple_end hh st.1 st.2 (by simp) hE
theorem meets_new (l : Addr) (items : Array Value) :
    Meets (Builtin.«enumerate.__new__» ⟨[.type "enumerate", .ref l], []⟩) (fun _ R s => s.heap.IsTuple l items ∧
      R (.ok (.ret (.ref (s.heap.push { cls := .type "tuple_iterator", data := .fields #[.ref l, .int 0 0] }).objs.size)))
        { s with heap := (s.heap.push { cls := .type "tuple_iterator", data := .fields #[.ref l, .int 0 0] }).push { cls := .type "enumerate", data := .fields #[.none, .bool false, .ref s.heap.objs.size, rawInt 0, .none, .none] } }) :=
  .of_wp fun prog w A R s h => by
    obtain ⟨hp, g, d, tk, os⟩ := s; obtain ⟨hl, h⟩ := h
    have hsub := sub_enumerate
    have hL : Heap.IsTuple (Shared.heap ⟨hp, g, d, tk, os⟩) l items := hl
    wp_walk using wpAny_pyIter_tuple hL
    refine wpAny_stack_any fun st => wpAny_pure ?_
    split
    · rename_i c _ _ _ _ _
      cases (c == Value.type "enumerate")
      · wp_walk using wpAny_pyIter_tuple hL
        exact ⟨_, rfl, h⟩
      · wp_walk using wpAny_pyIter_tuple hL
        exact ⟨_, rfl, h⟩
    · wp_walk using wpAny_pyIter_tuple hL
      exact ⟨_, rfl, h⟩
theorem call_enumT {prog : Program} {w : World} {A : Around} {E : Value → Shared → Prop} {s : Shared} {l : Addr} {items : Array Value} {Q : Value → Shared → Prop} (hL : s.heap.IsTuple l items)
    (h : ∀ h', IsEnum h' (s.heap.objs.size + 1) s.heap.objs.size 0 .none → h'.IsTupleIter s.heap.objs.size l 0 → h'.objs.size = s.heap.objs.size + 2 →
      (∀ b o, s.heap.get? b = some o → h'.get? b = some o) → Q (.ref (s.heap.objs.size + 1)) { s with heap := h' }) :
    wpAny (model prog w) A (call (.type "enumerate") [.ref l]) Q E s := by
  refine callType_new F.called_enumerate (by decide) (F.typeCall_enumerate_1 _) (F.newCall_enumerate_1 _) (fun obj => F.args_object_init_2 obj _) F.entry_enumerate_new
    (meets_new l items) ⟨hL, ?_⟩
  have hz : (s.heap.push { cls := .type "tuple_iterator", data := .fields #[.ref l, .int 0 0] }).objs.size = s.heap.objs.size + 1 := Heap.size_push ..
  show _ ∧ _
  rw [hz]
  have he : IsEnum ((s.heap.push { cls := .type "tuple_iterator", data := .fields #[.ref l, .int 0 0] }).push
      { cls := .type "enumerate", data := .fields #[.none, .bool false, .ref s.heap.objs.size, rawInt 0, .none, .none] }) (s.heap.objs.size + 1) s.heap.objs.size 0 .none := by
    have := Heap.get?_push_size (s.heap.push { cls := .type "tuple_iterator", data := .fields #[.ref l, .int 0 0] })
      (o := { cls := .type "enumerate", data := .fields #[.none, .bool false, .ref s.heap.objs.size, rawInt 0, .none, .none] }) rfl
    rw [hz] at this; exact this
  refine ⟨⟨_, he, rfl⟩, h _ he ⟨_, Heap.get?_push_of_some _ (Heap.get?_push_size _ rfl), rfl, rfl⟩ (by rw [Heap.size_push, hz]) fun b o x => Heap.get?_push_of_some _ (Heap.get?_push_of_some _ x)⟩
theorem wpAny_pyNext_enum_endX {prog : Program} {w : World} {A : Around} {E : Value → Shared → Prop} {s : Shared} {e it l : Addr} {i : Nat} {items : Array Value} {c : Int} {old : Value} {Q : Option Value → Shared → Prop} (hh : A.in1.handled = none)
    (he : IsEnum s.heap e it c old) (hit : s.heap.IsTupleIter it l i) (hl : s.heap.IsTuple l items) (hx : items[i]? = none)
    (hQ : ∀ h', Heap.ExtBut it s.heap h' → Q none { s with heap := h' }) : wpAny (model prog w) A (pyNext (.ref e)) Q E s := by
  have hT : s.TypeIs (.ref e) "enumerate" := ⟨_, he, rfl⟩
  unfold pyNext
  refine wpAny_bind (wpAny_attempt (wpAny_callSpecial?_slot (name := Str.ofString "__next__") hT F.slot_enumerate_next
    (wpAny_call_entry F.slot_enumerate_next hT F.entry_enumerate_next ?_ (F.args_enumerate_next_1 _))))
  show wpAny _ _ (field (.ref e) 2 >>= _) _ _ _
  refine wpAny_bind (wpAny_field he rfl (x := .ref it) rfl ?_)
  refine wpAny_bind (RZ.nextOf_tuple_end hh hit hl hx fun h' x he' hx' => ?_)
  obtain ⟨o, ho, hc⟩ := hx'
  refine wpAny_bind (wpAny_isInstance (T := "StopIteration") (b := true) ⟨o, ho, hc⟩ isSubtype_stop ?_)
  exact wpAny_pure (hQ _ he')
def IteT (K : PySem.W.Frag) (a : Addr) : It :=
  ⟨fun i H => ∃ (xs : List V) (x : V), SqT K H a xs ∧ xs[i]? = some x, fun i H v H' => ∃ T x, v = .ref T ∧ H T = none ∧ H' = upd H T (.tup [.int (i : Nat), x]) ∧ ∀ xs, SqT K H a xs → xs[i]? = some x, fun i H => ∃ xs : List V, SqT K H a xs ∧ xs.length ≤ i⟩
theorem turn_enumT {P : Program} {w : World} {K : PySem.W.Frag} {elts : List Expr} {kk : Nat} {tpos : Pos} (a e it : Addr) :
    Turn P w K (.Tuple elts kk tpos) (IteT K a) [e, it] e (fun i h => (∃ old, IsEnum h e it ((i : Nat) : Int) old) ∧ h.IsTupleIter it a i ∧ e ≠ it ∧ e ≠ a ∧ a ≠ it) where
  mem := by simp
  obj := fun i h st b hb => by
    obtain ⟨⟨old, he⟩, ⟨o, ho, hc, hd⟩, _⟩ := st
    have e' : b = e ∨ b = it := by simpa using hb
    rcases e' with z | z
    · rw [z]; exact ⟨_, he, fun v q => nomatch q⟩
    · rw [z]; exact ⟨o, ho, fun v q => by rw [hd] at q; cases q⟩
  keep := fun i h h' st k => let ⟨⟨old, he⟩, hi, hne⟩ := st; ⟨⟨old, k e (by simp) _ he⟩, hi.at fun o q => k it (by simp) o q, hne⟩
  item := by
    intro X hP hw hK hc i pins s σ H E I hf st hg
    subst hP hw hK
    obtain ⟨⟨old, he⟩, hit, hne, hea, hai⟩ := st
    obtain ⟨xs, x, hq, hx⟩ := hg
    obtain ⟨its, rv, p, _⟩ := I.tuple hq
    obtain ⟨u, hu, ru⟩ := rv.get hx
    have hel : e < s.heap.objs.size := Heap.lt_size he
    have hil : it < s.heap.objs.size := by obtain ⟨_, q, _⟩ := hit; exact Heap.lt_size q
    have ilt : i < its.toArray.size := by
      rw [List.size_toArray]
      exact (List.getElem?_eq_some_iff.mp hu).1
    have hh : X.A.in1.handled = none := show X.A.handled = none from I.ok.hd hc
    refine wpAny_pyNext_enum_itemD (draws_tuple hh it a hai its.toArray) he ⟨hit, p⟩ ilt hne (by simp [hne, hea]) fun x' h' tk hP ho hs' hT hsz hk => ?_
    obtain rfl : u = x' := by
      have q : its.toArray[i]? = some u := by simpa using hu
      rw [q] at hP
      exact Option.some.inj hP
    refine ⟨_, rfl, wpAny_letOwnedTupleGo_enum (s := { s with heap := h', toks := tk + 1 }) ho fun h'' he' sb => ?_⟩
    have hT2 : h''.get? s.heap.objs.size = some { cls := .type "tuple", data := .seq #[.int i tk, u] } := (sb.2 _ (Nat.ne_of_gt hel)).trans hT
    have new : ObjOk X.prog X.w (upd H s.heap.objs.size (.tup [.int (i : Nat), x])) h'' s.heap.objs.size (.tup [.int (i : Nat), x]) :=
      ⟨by show 2 ≤ sizeLine; decide, [.int i tk, u], .cons ⟨_, rfl⟩ (.cons ru .nil), ⟨_, hT2, rfl, _, rfl⟩⟩
    have I1 : Inv X pins σ (upd H s.heap.objs.size (.tup [.int (i : Nat), x])) { s with heap := h'', toks := tk + 1 } :=
      I.turnedNew (ch := [e, it]) (fun b ob hb q => (sb.2 b (fun z => hb (by simp [z]))).trans (hk b ob (fun z => hb (by simp [z])) (fun z => hb (by simp [z])) q)) hf (Nat.le_refl _) new
    refine ⟨.ref s.heap.objs.size, _, I1, rfl, ⟨_, x, rfl, I.hok.fresh (Nat.le_refl _), rfl, fun ys hy => by rw [I.tuple_inj hy hq]; exact hx⟩, ⟨⟨u, ?_⟩, hs'.1.at fun o q => (sb.2 it (Ne.symm hne)).trans q, hne, hea, hai⟩, fun b hb => ?_⟩
    · have e1 : ((i + 1 : Nat) : Int) = (i : Int) + 1 := by omega
      rw [e1]; exact he'
    · have hb' : b < s.heap.objs.size := by
        have e' : b = e ∨ b = it := by simpa using hb
        rcases e' with z | z
        · rw [z]; exact hel
        · rw [z]; exact hil
      rw [upd_ne (Nat.ne_of_lt hb')]
      exact (hf b hb).1
  done := by
    intro X hP hw hK hc i pins s σ H E I hf st hg
    subst hP hw hK
    obtain ⟨⟨old, he⟩, hit, hne, hea, hai⟩ := st
    obtain ⟨xs, hq, hx⟩ := hg
    obtain ⟨its, rv, p, _⟩ := I.tuple hq
    obtain ⟨f0, f1, f2, f3, f4, f5⟩ := hf it (by simp)
    have hl := rv.length
    have hh : X.A.in1.handled = none := show X.A.handled = none from I.ok.hd hc
    refine wpAny_pyNext_enum_endX hh he hit p (by simp; omega) fun h' eb => ⟨rfl, I.turned (t' := s.toks) (fun b o hb q => eb b o hb q) f0 f1 f3 f4 f5⟩
  self := fun A i s Q E st h => let ⟨⟨_, he⟩, _⟩ := st; wpAny_pyIter_enum he h
def iEnumT (K : PySem.W.Frag) (ta : TA) : TI := fun σ H R => ta σ H fun vs H1 => ∃ a xs, vs = [.ref a] ∧ SqT K H1 a xs ∧ R (IteT K a) H1
theorem pi_enumT {X : Cx} {e : Expr} {ta : TA} {p pos tpos : Pos} {elts : List Expr} {kk : Nat} (hg : Gl X "enumerate") (hm : X.mg "enumerate" = none) (ha : PA X [e] ta) (hs : starEach [e] X.env = [(false, eval e X.env)] := by rfl) :
    PI X (.Tuple elts kk tpos) (.Call (.Name "enumerate" p) [e] [] pos) (iEnumT X.K ta) := by
  refine ⟨fun pins s σ H R I h => ?_⟩
  refine Call_ (ld_blt I hg hm boot_enumerate (PyProof.Rows.callWith_type1 (thn (ha.run pos pins s σ H _ I h) fun us s1 ⟨vs, H1, I1, r1, q1⟩ => ?_) hs rfl))
  obtain ⟨a, xs, ex, hq, q⟩ := q1
  subst ex
  cases r1 with
  | cons r rr =>
    cases rr
    cases r
    obtain ⟨its, rv, p', hz⟩ := I1.tuple hq
    have al : a < s1.heap.objs.size := by obtain ⟨_, y, _⟩ := id p'; exact Heap.lt_size y
    refine call_enumT p' fun h' he hit hsz hk => wpAny_pyIter_enum he ?_
    have I2 : Inv X pins σ H1 { s1 with heap := h' } := I1.kept (t' := s1.toks) hk
    refine ⟨s1.heap.objs.size + 1, [s1.heap.objs.size + 1, s1.heap.objs.size], _, _, H1, rfl, I2, turn_enumT a (s1.heap.objs.size + 1) s1.heap.objs.size, ⟨⟨.none, he⟩, hit, Nat.succ_ne_self _, Nat.ne_of_gt (Nat.lt_succ_of_lt al), Nat.ne_of_lt al⟩, fun b hb => ?_, q⟩
    have e' : b = s1.heap.objs.size + 1 ∨ b = s1.heap.objs.size := by simpa using hb
    have hle : s1.heap.objs.size ≤ b := by
      rcases e' with z | z
      · rw [z]; exact Nat.le_add_right _ _
      · rw [z]; exact Nat.le_refl _
    exact I1.fpOk hle (I1.hok.fresh hle)
end ET

/-! ### what may be shown, its numbers being great -/
structure Shw (d : PyData) : Prop where
  lay : d.canLay0 = true
  sh : d.showable = true
  dep : d.depth ≤ 50
  fits : d.shown.length ≤ sizeLine
theorem Neat.shw {k n : Nat} {d : PyData} (h : Neat k n d) (hk : k ≤ 50) (hn : n ≤ 1000000) : Shw d := ⟨h.lay, h.sh, Nat.le_trans h.dep hk, h.fits hk hn⟩
theorem log_big {i : Int} (h : i.natAbs < 10 ^ 300) : i.natAbs.log2 < 1920 := by
  by_cases h0 : i.natAbs = 0
  · rw [h0]
    decide
  · rw [Nat.log2_lt h0]
    exact Nat.lt_trans h (by decide +kernel)
theorem short_big {i : Int} (h : i.natAbs < 10 ^ 300) : PyData.intsShort 301 (.int i) = true := by
  simp only [PyData.intsShort, PyData.shown, decide_eq_true_eq]
  exact decide_eq_true (Nat.le_trans (Nat.le_of_eq (str_len _)) (int_text_length_le10 (a := i) (k := 300) (by decide) h))
theorem shw_two {i j : Int} (hi : i.natAbs < 10 ^ 300) (hj : j.natAbs < 10 ^ 300) : Shw (.tuple [.int i, .int j]) := by
  have lay : PyData.canLay0 (.tuple [.int i, .int j]) = true := by simp only [PyData.canLay0, PyData.canLayAll0, Bool.and_self]
  have short : PyData.intsShort 301 (.tuple [.int i, .int j]) = true := by
    have a := short_big hi
    have b := short_big hj
    simp only [PyData.intsShort, PyData.intsShortAll, Bool.and_eq_true] at a b ⊢
    exact ⟨a, b, trivial⟩
  have wt : PyData.weight (.tuple [.int i, .int j]) ≤ 4000 := by
    have a := log_big hi
    have b := log_big hj
    simp only [PyData.weight, PyData.weightAll]
    split <;> split <;> omega
  refine ⟨lay, ?_, by simp only [PyData.depth, PyData.depthAll]; decide, ?_⟩
  · simp only [PyData.showable, PyData.showableAll, Bool.and_eq_true, decide_eq_true_eq]
    exact ⟨log_big hi, log_big hj, trivial⟩
  · have q := PyData.shown_le 301 (by decide) _ (PyData.leavesShort_of_canLay0 301 _ lay short)
    exact Nat.le_trans q (Nat.le_trans (show (301 + 2) * PyData.weight (.tuple [.int i, .int j]) + 301 ≤ 1300000 by omega) (by decide))
def rReprS (K : PySem.W.Frag) : List V → Hp → VK → Prop := fun xs H Q => ∃ (x : V) (d : PyData), xs = [x] ∧ Dp K H x d ∧ Shw d ∧ Q (.str d.shown) H
theorem call_reprS {X : Cx} (hg : X.A.guards = some []) (hu : X.A.units + 64 < cLine) : CallR X (.builtin "repr") (rReprS X.K) := by
  intro pins s σ H xs us Q I rel h
  obtain ⟨x, d, rfl, hd, hn, q⟩ := h
  obtain ⟨u, rfl, ru⟩ := vals1 rel
  obtain ⟨as, rr⟩ := Dp.reads I d x u hd ru
  have dd := hn.dep
  cases hd
  case non =>
    cases ru
    exact PySem.P.repr_of_none ⟨.str _, H, I.tok _, ⟨_, rfl⟩, q⟩
  case bl b =>
    cases ru
    exact PySem.P.repr_of_bool ⟨.str _, H, I.tok _, ⟨_, rfl⟩, q⟩
  case int i =>
    obtain ⟨t, rfl⟩ := ru
    have sh := hn.sh
    simp only [PyData.showable, decide_eq_true_eq] at sh
    exact PySem.P.repr_of_int sh ⟨.str _, H, I.tok _, ⟨_, rfl⟩, q⟩
  case str z =>
    obtain ⟨t, rfl⟩ := ru
    exact PySem.P.repr_of_str ⟨.str _, H, I.tok _, ⟨_, rfl⟩, q⟩ hn.fits
  case lst =>
    cases ru
    exact repr_of_reads' rr hn.sh (PyData.noDict_hsm (PyData.hasDict_of_canLay _ hn.lay)) hg (by omega) (fun _ _ e => e) (fun _ _ _ kk => ⟨.str _, H, I.kept kk, ⟨_, rfl⟩, q⟩) hn.fits
  case tup =>
    cases ru
    exact repr_of_reads' rr hn.sh (PyData.noDict_hsm (PyData.hasDict_of_canLay _ hn.lay)) hg (by omega) (fun _ _ e => e) (fun _ _ _ kk => ⟨.str _, H, I.kept kk, ⟨_, rfl⟩, q⟩) hn.fits
/-! ### defs that show something, called -/
section
open PySem.Spec PyProof.Rows
structure CalG (P : Program) (w : World) (K : PySem.W.Frag) (mg : Str → Option Value) (base : Heap) (k : Nat) (x : Str) (sp : Sp) : Prop where
  ex : ∃ (f : Addr) (fd : FuncData) (ps : List Str), FnG P w K mg base k f fd ps sp ∧ mg x = some (.ref f) ∧ PySem.W.keepIn K (.ref f) = true ∧ Binds K fd ps []
theorem run_g {X : Cx} {k j : Nat} {f : Addr} {fd : FuncData} {ps : List Str} {sp : Sp} {pins : List (Addr × Obj)} {σ : L2.St} {H : Hp} {s : Shared} {Q : VK} {us : List Value} {vs : List V} (F : FnG X.prog X.w X.K X.mg X.base k f fd ps sp) (b : Binds X.K fd ps []) (gu : X.A.guards = some []) (hr : Room j X.A) (hk : k ≤ j)
    (I : Inv X pins σ H s) (r : Vals vs us) (h : sp vs H Q E0) : wpAny (model X.prog X.w) X.A (call (.ref f) us) (EP X pins σ Q) X.xe s := by
  have n : (us ++ []).length = ps.length := by
    rw [List.append_nil, ← r.length]
    exact F.many _ _ _ _ h
  have bt := b s us I.kIn n
  rw [List.append_nil] at bt
  refine wpAny_call (codeAny_mono (F.goes X.A X.stack s H ⟨us, []⟩ us vs Q E0 gu (hr.mono hk) I.env0 bt r h) fun res s' got => ?_)
  match res, got with
  | .error e, got => exact pass0 pins σ H s e s' I got
  | .ok (.ret u), got => exact I.after got
theorem pe_g {X : Cx} {k j : Nat} {x : Str} {sp : Sp} {p pos : Pos} {e : Expr} {es : List Expr} {t : TA} (c : CalG X.prog X.w X.K X.mg X.base k x sp) (gu : X.A.guards = some []) (hr : Room j X.A) (hk : k ≤ j) (hg : Gl X x) (ha : PA X (e :: es) t)
    (hdb : (x == ("__debug__" : Str)) = false := by decide) (he : starEach (e :: es) X.env = (false, eval e X.env) :: starEach es X.env := by rfl) (hpl : (backTo pos (starEach es X.env)).any (·.1) = false := by rfl) :
    PE X (.Call (.Name x p) (e :: es) [] pos) (fun σ H Q => t σ H fun vs H1 => sp vs H1 Q E0) := by
  obtain ⟨f, fd, ps, F, hm, kp, b⟩ := c.ex
  exact ⟨fun pins s σ H Q I h => wpAny_Call_Name_kw (ld_glob I hg hm (PySem.W.callWith_K (h₀ := X.base) I.ok.mod.kin kp (thn (ha.run pos pins s σ H _ I h) fun us s1 ⟨vs, H1, I1, r, q⟩ => ⟨I1.kIn, run_g F b gu hr hk I1 r q⟩) he hpl) hdb)⟩
theorem pe_g0 {X : Cx} {k j : Nat} {x : Str} {sp : Sp} {p pos : Pos} (c : CalG X.prog X.w X.K X.mg X.base k x sp) (gu : X.A.guards = some []) (hr : Room j X.A) (hk : k ≤ j) (hg : Gl X x) (hdb : (x == ("__debug__" : Str)) = false := by decide) :
    PE X (.Call (.Name x p) [] [] pos) (fun _ H Q => sp [] H Q E0) := by
  obtain ⟨f, fd, ps, F, hm, kp, b⟩ := c.ex
  exact ⟨fun pins s σ H Q I h => wpAny_Call_Name_kw (ld_glob I hg hm (PySem.W.callWith_K0 I.kIn kp (run_g (us := []) F b gu hr hk I .nil h)) hdb)⟩
end

/-! ### writers, situations, texts may be shown -/
theorem part_len {z : Str} : ∀ {r : Rc}, .s z ∈ r → z.length ≤ lets r
  | q :: r, h => by
    have e : lets (q :: r) = q.let + lets r := by
      unfold lets
      rw [List.map_cons, List.sum_cons]
    rw [e]
    rcases List.mem_cons.mp h with rfl | h
    · exact Nat.le_add_right _ _
    · have := part_len h
      omega
theorem flat_lt {fs : List Rc} {r : Rc} {n : Nat} (h : ∀ i ∈ fs.flatMap bufs, i < n) (hr : r ∈ fs) : ∀ i ∈ bufs r, i < n := fun i hi => h i (List.mem_flatMap.mpr ⟨r, hr, hi⟩)
theorem neat_rc {r : Rc} {n : Nat} (h : ROk r) (hb : ∀ i ∈ bufs r, i < n) (hn : n ≤ 1000) : Neat 1 205 r.d := by
  have e : NeatAll 0 (r.length * (40 + 1)) (r.map Pt.d) := neatAll_map fun q hq => by
    cases q with
    | s z =>
      have a := part_len hq
      have b := h.lt
      exact (neat_str (low_strOk (h.low _ hq))).le (Nat.le_refl _) (by omega)
    | b i =>
      have := hb i (List.mem_flatMap.mpr ⟨_, hq, List.mem_singleton.mpr rfl⟩)
      exact neat_int (by omega)
  have l := h.len
  exact (e.tup).le (Nat.le_refl _) (by omega)
theorem neat_rcE {r : Rc} {n : Nat} (h : ROkE r) (hb : ∀ i ∈ bufs r, i < n) (hn : n ≤ 1000) : Neat 1 246 r.d := by
  have e : NeatAll 0 (r.length * (40 + 1)) (r.map Pt.d) := neatAll_map fun q hq => by
    cases q with
    | s z =>
      have a := part_len hq
      have b := h.lt
      exact (neat_str (low_strOk (h.low _ hq))).le (Nat.le_refl _) (by omega)
    | b i =>
      have := hb i (List.mem_flatMap.mpr ⟨_, hq, List.mem_singleton.mpr rfl⟩)
      exact neat_int (by omega)
  have l := h.len
  exact (e.tup).le (Nat.le_refl _) (by omega)
theorem neat_ent {S B : Nat} {e : Option (Nat × List Rc)} (h : EntOk S B e) (hS : S ≤ 12) (hB : B ≤ 3) : Neat 3 700 (entD e) := by
  cases e with
  | none => exact neat_none.le (by decide) (by decide)
  | some x =>
    obtain ⟨t, fs⟩ := x
    obtain ⟨h1, h2⟩ := h t fs rfl
    have a : NeatAll 1 (fs.length * (205 + 1)) (fs.map Rc.d) := neatAll_map fun r hr => neat_rc (h2.each r hr) (flat_lt h2.lt hr) (by omega)
    have b : NeatAll 2 _ [.int (t : Int), fillsD fs] := NeatAll.cons ((neat_int (i := (t : Int)) (by omega)).le (by decide) (Nat.le_refl _)) (NeatAll.cons a.tup neatAll_nil)
    have l := h2.len
    exact b.tup.le (Nat.le_refl _) (by omega)
theorem neat_W {k S B : Nat} {W : Wr} (h : WOk k S B W) (hk : k ≤ 4) (hS : S ≤ 12) (hB : B ≤ 3) : Neat 6 40000 W.d := by
  have a : NeatAll 0 (W.begins.length * (2 + 1)) (W.begins.map .str) := neatAll_map fun z hz => (neat_str (low_strOk (h.b2 z hz).low)).le (Nat.le_refl _) (h.b2 z hz).len
  have b : NeatAll 4 (W.rules.length * (2804 + 1)) (W.rules.map rowD) := neatAll_map fun row hrow => by
    obtain ⟨r1, r2⟩ := h.r2 row hrow
    have c : NeatAll 3 (row.length * (700 + 1)) (row.map entD) := neatAll_map fun e he => neat_ent (r2 e he) hS hB
    exact c.tup.le (Nat.le_refl _) (by omega)
  have c : NeatAll 1 (W.ends.length * (246 + 1)) (W.ends.map endD) := neatAll_map fun e he => by
    cases e with
    | none => exact neat_none.le (by decide) (by decide)
    | some r =>
      have q := h.e2 _ he r rfl
      exact neat_rcE q.ok q.lt (by omega)
  have all : NeatAll 5 _ [.tuple (W.begins.map .str), .tuple (W.rules.map rowD), .tuple (W.ends.map endD)] :=
    NeatAll.cons (a.tup.le (by decide) (Nat.le_refl _)) (NeatAll.cons (b.tup.le (by decide) (Nat.le_refl _)) (NeatAll.cons (c.tup.le (by decide) (Nat.le_refl _)) neatAll_nil))
  have l1 := h.b1
  have l2 := h.r1
  have l3 := h.e1
  exact all.tup.le (Nat.le_refl _) (by omega)

/-! ### small writers -/
/-- how many letters the pieces of a recipe have, piece by piece; of recipes together -/
def pieces (r : Rc) : List Nat := r.filterMap fun q => match q with
  | .s z => some z.length
  | .b _ => none
def letF (fs : List Rc) : Nat := (fs.map lets).sum
theorem pieces_cons (q : Pt) (r : Rc) : pieces (q :: r) = pieces [q] ++ pieces r := by
  unfold pieces
  cases q <;> rfl
theorem pieces_sum : ∀ r : Rc, (pieces r).sum = lets r
  | [] => rfl
  | .s z :: r => by
    have e : lets (.s z :: r) = z.length + lets r := by
      unfold lets
      rw [List.map_cons, List.sum_cons]
      rfl
    rw [pieces_cons, List.sum_append, pieces_sum r, e]
    show (z.length + 0) + lets r = _
    omega
  | .b i :: r => by
    have e : lets (.b i :: r) = lets r := by
      unfold lets
      rw [List.map_cons, List.sum_cons]
      exact Nat.zero_add _
    rw [pieces_cons, List.sum_append, pieces_sum r, e]
    exact Nat.zero_add _
theorem pieces_flat : ∀ fs : List Rc, (fs.flatMap pieces).sum = letF fs
  | [] => rfl
  | r :: fs => by
    have e : letF (r :: fs) = lets r + letF fs := by
      unfold letF
      rw [List.map_cons, List.sum_cons]
    rw [List.flatMap_cons, List.sum_append, pieces_flat fs, pieces_sum, e]
theorem iN_sum (l : List Nat) : (iN l).sum = (l.sum : Nat) := by
  induction l with
  | nil => rfl
  | cons a r ih =>
    have e : iN (a :: r) = (a : Int) :: iN r := rfl
    rw [e, List.sum_cons, ih, List.sum_cons]
    omega
theorem pieces_take {r : Rc} {j : Nat} {q : Pt} (h : r[j]? = some q) : pieces (r.take (j + 1)) = pieces (r.take j) ++ pieces [q] := by
  unfold pieces
  rw [List.take_add_one, h, List.filterMap_append]
  rfl
theorem pieces_le : ∀ r : Rc, (pieces r).length ≤ r.length := fun r => List.length_filterMap_le _ _
theorem flat_take {α β : Type} {g : α → List β} {l : List α} {i : Nat} {x : α} (h : l[i]? = some x) : (l.take (i + 1)).flatMap g = (l.take i).flatMap g ++ g x := by
  rw [List.take_add_one, h, List.flatMap_append]
  show _ ++ List.flatMap g [x] = _
  rw [List.flatMap_cons, List.flatMap_nil, List.append_nil]
theorem flat_len {α β : Type} {g : α → List β} {n : Nat} : ∀ l : List α, (∀ x ∈ l, (g x).length ≤ n) → (l.flatMap g).length ≤ l.length * n
  | [], _ => Nat.zero_le _
  | x :: r, h => by
    have a := h x List.mem_cons_self
    have b := flat_len r fun y hy => h y (List.mem_cons_of_mem _ hy)
    rw [List.flatMap_cons, List.length_append, List.length_cons, Nat.succ_mul]
    omega
/-- a recipe, an entry, a writer of bounded size -/
structure RSz (r : Rc) : Prop where
  lt : lets r ≤ 1000
  low : lowR r
  len : r.length ≤ 300
  b : ∀ i ∈ bufs r, i < 100
structure FSz (fs : List Rc) : Prop where
  len : fs.length ≤ 10
  each : ∀ r ∈ fs, RSz r
def ESz (e : Option (Nat × List Rc)) : Prop := ∀ t fs, e = some (t, fs) → t < 100 ∧ FSz fs
structure WSz (W : Wr) : Prop where
  b1 : 1 ≤ W.begins.length
  b2 : W.begins.length ≤ 10
  b3 : ∀ z ∈ W.begins, Tx 300 z
  r1 : 1 ≤ W.rules.length
  r2 : W.rules.length ≤ 20
  r3 : ∀ row ∈ W.rules, row.length ≤ 10 ∧ ∀ e ∈ row, ESz e
  e1 : W.ends.length ≤ 20
  e2 : ∀ e ∈ W.ends, ∀ q, e = some q → RSz q
/-- letters at all places -/
def entL : Option (Nat × List Rc) → List Nat
  | none => []
  | some (_, fs) => [letF fs]
def endL : Option Rc → List Nat
  | none => []
  | some r => [letF [r]]
def placesW (W : Wr) : List Nat := W.begins.map (·.length) ++ W.rules.flatMap (fun row => row.flatMap entL) ++ W.ends.flatMap endL
def spLetters : Sp := fun vs H Q _ => ∃ (a : V) (fs : List Rc), vs = [a] ∧ Tp H a (fillsD fs) ∧ FSz fs ∧ ∀ H', Same H H' → Q (.int (letF fs : Nat)) H'
def spMost : Sp := fun vs H Q _ => ∃ (a : V) (W : Wr), vs = [a] ∧ Tp H a W.d ∧ WSz W ∧ ∀ (m : Nat) H', Same H H' → m ∈ placesW W → (∀ n ∈ placesW W, n ≤ m) → Q (.int m) H'
structure BN3 (mg : Str → Option Value) : Prop extends BN2 mg where
  sum : mg "sum" = none
  all : mg "all" = none
  max : mg "max" = none
theorem sc_lin : FnScope ["recipes", "recipe", "part"] ["recipes"] (fnScope st_letters_in_) := fnScope_by (by decide +kernel)
theorem sc_places : FnScope ["writer", "begins", "rules", "ends", "at_begins", "at_entries", "at_ends", "text", "row", "entry", "end"] ["writer"] (fnScope st_most_letters_) := fnScope_by (by decide +kernel)
theorem piece_room {r : Rc} (h : RSz r) {z : Str} (hz : .s z ∈ r) : z.length ≤ sizeLine := Nat.le_trans (Nat.le_trans (part_len hz) h.lt) (by decide)
theorem lt_line {n : Nat} (h : n ≤ 10000) : n < sizeLine := Nat.lt_of_le_of_lt h (by decide)
section
variable {P : Program} {w : World} {K : PySem.W.Frag} {mg : Str → Option Value} {base : Heap} {f : Addr} {fd : FuncData}
theorem cal_lin (F : C8.Def K mg "letters_in" st_letters_in_ f fd) (b : Binds K fd ["recipes"] []) (B : BN3 mg) : Cal P w K mg base 1 "letters_in" spLetters [] := by
  refine cal0 F b .nil sc_lin (fun vs H Q E h => ?_) (fun cdv A outer s H vs Q E hr h => ?_)
  · obtain ⟨a, fs, rfl, _⟩ := h
    rfl
  · obtain ⟨a, fs, rfl, ha, hf, k⟩ := h
    obtain ⟨a, xs, rfl, h1, h2⟩ := ha.tup_inv
    refine ⟨_, pss_one (ps_ret (pe_callB (cr_sum rfl) (by rfl) B.sum (by decide +kernel) (pa_cons (pe_lc2 (own := [("recipe", 1), ("part", 2)]) (vs1 := [2]) (g := gName 1) (tt := tYes) (g1 := gName 2) (tt1 := tB (tCB (rIsi K) (tCons (tVar 2) (tCons (tC (.ty "str")) tNil)))) (wi1 := iTup K (tVar 1)) (by rfl) sc_lin.nd (pi_tup (pv 0))
      (blkOk_by (own := [("recipe", 1), ("part", 2)]) (N := ["recipes", "recipe", "part"]) (sc := fnScope st_letters_in_) (by decide +kernel)) (by decide) (fun _ _ _ _ _ => pg_name (i := 1) sc_lin.nd rfl (Or.inl rfl)) (fun _ _ _ _ _ => pts_nil)
      (fun _ _ _ _ _ => pi_tup (pv 1)) (fun _ _ _ _ _ => pg_name (i := 2) sc_lin.nd rfl (Or.inl rfl))
      (fun _ _ _ _ _ => pts_one (pt_val (pe_callB (isiK K) (by rfl) B.isi (by decide +kernel) (pa_cons (pv 2) (pa_cons (pe_bltn (v := .ty "str") (by rfl) B.str (by decide +kernel) rfl) pa_nil)))))
      (fun _ _ _ _ _ => pe_callB call_len_str (by rfl) B.len PySem.boot_len (pa_cons (pv 2) pa_nil))) pa_nil))), ?_⟩
    have lenx : xs.length = fs.length := by rw [h2.len, List.length_map]
    refine ⟨_, rfl, a, rfl, ⟨_, SqT.of h1⟩, fun D hD => ?_⟩
    have short : ∀ i, ((fs.take i).flatMap pieces).length ≤ 9000 := fun i => by
      have e := flat_len (g := pieces) (n := 300) (fs.take i) fun r hr => Nat.le_trans (pieces_le r) (hf.each r (List.mem_of_mem_take hr)).len
      have l := hf.len
      have t : (fs.take i).length ≤ fs.length := by rw [List.length_take]; omega
      omega
    refine walk_tup (K := K) (a := a) (xs := xs) (fun i H' => Same H H' ∧ H' D = some (.lst ((iN ((fs.take i).flatMap pieces)).map V.int))) ⟨same_new hD, upd_same⟩ (fun i H' _ h => SqT.of (h.1 _ _ h1)) ?_ ?_
    · rintro i x H1 hi ⟨s1, hL⟩
      have hlt : i < fs.length := by
        have q := (List.getElem?_eq_some_iff.mp hi).1
        omega
      have hg := List.getElem?_eq_getElem hlt
      obtain ⟨v, hv, tv⟩ := h2.at hg
      rw [hi] at hv
      cases hv
      have rsz := hf.each _ (List.getElem_mem hlt)
      obtain ⟨ra, rx, rfl, r1, r2⟩ := tv.tup_inv
      obtain rfl := tpAll_parts r2
      refine ⟨rfl, ?_⟩
      refine ⟨_, rfl, ra, rfl, ⟨_, SqT.of (s1 _ _ r1)⟩, ?_⟩
      refine walk_tup (K := K) (a := ra) (xs := fs[i].map Pt.v) (fun j H' => Same H H' ∧ H' D = some (.lst ((iN ((fs.take i).flatMap pieces ++ pieces (fs[i].take j))).map V.int))) ⟨s1, ?_⟩ (fun j H' _ h => SqT.of (h.1 _ _ r1)) ?_ ?_
      · rw [hL]
        show _ = some (HO.lst ((iN ((fs.take i).flatMap pieces ++ [])).map V.int))
        rw [List.append_nil]
      · rintro j y H2 hj ⟨s2, hL2⟩
        obtain ⟨q, hq, rfl⟩ : ∃ q, fs[i][j]? = some q ∧ y = Pt.v q := by
          rw [List.getElem?_map] at hj
          cases e : fs[i][j]? with
          | none =>
            rw [e] at hj
            cases hj
          | some u =>
            rw [e] at hj
            exact ⟨u, rfl, (Option.some.inj hj).symm⟩
        refine ⟨rfl, ?_⟩
        obtain ⟨ty, tb, t1, t2, t3, t4⟩ := isi_pt (K := K) (H := H2) q
        refine ⟨_, rfl, q.v, _, ty, _, tb, rfl, .ty _, t1, t2, _, rfl, ?_⟩
        cases tb with
        | true =>
          obtain ⟨z, rfl⟩ := t3 rfl
          refine iteT ⟨_, rfl, z, rfl, piece_room rsz (List.mem_of_getElem? hq), _, hL2, ?_, Same.put s2 hD, ?_⟩
          · unfold iN
            rw [List.length_map, List.length_map, List.length_append]
            have a1 := short i
            have a2 := pieces_le (fs[i].take j)
            have a3 := rsz.len
            have a4 : (fs[i].take j).length ≤ fs[i].length := by rw [List.length_take]; omega
            exact lt_line (by omega)
          · rw [upd_same, pieces_take hq, ← List.append_assoc]
            have e : pieces [Pt.s z] = [z.length] := rfl
            rw [e, iN_app]
        | false =>
          obtain ⟨m, rfl⟩ := t4 rfl
          refine iteF ⟨s2, ?_⟩
          rw [hL2, pieces_take hq]
          have e : pieces [Pt.b m] = [] := rfl
          rw [e, List.append_nil]
      · rintro H2 ⟨s2, hL2⟩
        refine ⟨s2, ?_⟩
        rw [hL2, List.length_map, List.take_length, flat_take hg]
    · rintro H1 ⟨s1, hL⟩
      rw [lenx, List.take_length] at hL
      refine ⟨D, _, rfl, SqL.of hL, ?_⟩
      rw [iN_sum, pieces_flat]
      exact k _ s1
end
section
variable {P : Program} {w : World} {K : PySem.W.Frag} {mg : Str → Option Value} {base : Heap} {f : Addr} {fd : FuncData}
theorem placesW_len {W : Wr} (h : WSz W) : W.begins.length ≤ 10 ∧ (∀ i, ((W.rules.take i).flatMap fun row => row.flatMap entL).length ≤ 200) ∧ (∀ row ∈ W.rules, ∀ j, ((row.take j).flatMap entL).length ≤ 10) ∧ ∀ i, ((W.ends.take i).flatMap endL).length ≤ 20 := by
  have one : ∀ e, (entL e).length ≤ 1 := fun e => by cases e <;> simp [entL]
  have one' : ∀ e, (endL e).length ≤ 1 := fun e => by cases e <;> simp [endL]
  have rows : ∀ row ∈ W.rules, ∀ j, ((row.take j).flatMap entL).length ≤ 10 := fun row hrow j => by
    have a := flat_len (g := entL) (n := 1) (row.take j) fun e _ => one e
    have b := (h.r3 row hrow).1
    rw [List.length_take] at a
    omega
  refine ⟨h.b2, fun i => ?_, rows, fun i => ?_⟩
  · have a := flat_len (g := fun row : List (Option (Nat × List Rc)) => row.flatMap entL) (n := 10) (W.rules.take i) fun row hrow => by
      have b := rows row (List.mem_of_mem_take hrow) row.length
      rw [List.take_length] at b
      exact b
    have b := h.r2
    rw [List.length_take] at a
    omega
  · have a := flat_len (g := endL) (n := 1) (W.ends.take i) fun e _ => one' e
    have b := h.e1
    rw [List.length_take] at a
    omega
theorem iN_cat (a b : List Nat) : (iN (a ++ b)).map V.int = (iN a).map V.int ++ (iN b).map V.int := by
  unfold iN
  rw [List.map_append, List.map_append]
theorem iN_len (a : List Nat) : ((iN a).map V.int).length = a.length := by
  unfold iN
  rw [List.length_map, List.length_map]
theorem cal_most (F : C8.Def K mg "most_letters" st_most_letters_ f fd) (b : Binds K fd ["writer"] []) (B : BN3 mg) (Cl : Cal P w K mg base 1 "letters_in" spLetters []) : Cal P w K mg base 2 "most_letters" spMost [] := by
  refine cal0 F b .nil sc_places (fun vs H Q E h => ?_) (fun cdv A outer s H vs Q E hr h => ?_)
  · obtain ⟨a, W, rfl, _⟩ := h
    rfl
  · obtain ⟨a, W, rfl, ha, hW, k⟩ := h
    obtain ⟨a, xs, rfl, ha1, ha2⟩ := ha.tup_inv
    cases ha2 with
    | @cons vb x2 _ _ tb h2 =>
    cases h2 with
    | @cons vr x3 _ _ tr h3 =>
    cases h3 with
    | @cons ve x4 _ _ te h4 =>
    cases h4
    obtain ⟨ba, bx, rfl, tb1, tb2⟩ := tb.tup_inv
    obtain rfl := tpAll_strs tb2
    obtain ⟨ra, rx, rfl, tr1, tr2⟩ := tr.tup_inv
    obtain ⟨ea, ex, rfl, te1, te2⟩ := te.tup_inv
    obtain ⟨n1, n2, n3, n4⟩ := placesW_len hW
    refine ⟨_, pss_cons (ps_asg (pv 0) (pg_tup rfl (pgs_cons (pg_name (i := 1) sc_places.nd rfl (Or.inl rfl)) (pgs_cons (pg_name (i := 2) sc_places.nd rfl (Or.inl rfl)) (pgs_cons (pg_name (i := 3) sc_places.nd rfl (Or.inl rfl)) pgs_nil)))))
      (pss_cons (ps_setLc (i := 4) (own := [("text", 7)]) (g := gName 7) (tt := tYes) (by rfl) sc_places.nd rfl rfl (sw_true rfl rfl rfl (by decide +kernel)) (pi_tup (pv 1)) (blkOk_by (own := [("text", 7)]) (N := ["writer", "begins", "rules", "ends", "at_begins", "at_entries", "at_ends", "text", "row", "entry", "end"]) (sc := fnScope st_most_letters_) (by decide +kernel))
        (fun _ _ _ _ _ => pg_name (i := 7) sc_places.nd rfl (Or.inl rfl)) (fun _ _ _ _ _ => pts_nil) (fun _ _ _ _ _ => pe_callB call_len_str (by rfl) B.len PySem.boot_len (pa_cons (pv 7) pa_nil)))
      (pss_cons (ps_setLc2 (i := 5) (own := [("row", 8), ("entry", 9)]) (vs1 := [9]) (g := gName 8) (tt := tYes) (g1 := gName 9) (wi1 := iTup K (tVar 8)) (tt1 := tB (tNotN (tVar 9))) (te := tCall spLetters [] C8.E0 (tCons (tOp (rIxT K) (tVar 9) (tC (.int 1))) tNil)) (by rfl) sc_places.nd rfl rfl (sw_true rfl rfl rfl (by decide +kernel)) (pi_tup (pv 2))
        (blkOk_by (own := [("row", 8), ("entry", 9)]) (N := ["writer", "begins", "rules", "ends", "at_begins", "at_entries", "at_ends", "text", "row", "entry", "end"]) (sc := fnScope st_most_letters_) (by decide +kernel)) (by decide) (fun _ _ _ _ _ => pg_name (i := 8) sc_places.nd rfl (Or.inl rfl)) (fun _ _ _ _ _ => pts_nil)
        (fun _ _ _ _ _ => pi_tup (pv 8)) (fun _ _ _ _ _ => pg_name (i := 9) sc_places.nd rfl (Or.inl rfl)) (fun _ _ _ _ _ => pts_one (pt_cmp (pc_notN (pv 9))))
        (fun _ _ _ _ _ => pe_c Cl hr (by decide) (by rfl) (pa_cons (pe_ix (ix_tupK K) (pv 9) pe_int (fun _ _ => rfl)) pa_nil)))
      (pss_cons (ps_setLc (i := 6) (own := [("end", 10)]) (g := gName 10) (tt := tB (tNotN (tVar 10))) (by rfl) sc_places.nd rfl rfl (sw_true rfl rfl rfl (by decide +kernel)) (pi_tup (pv 3)) (blkOk_by (own := [("end", 10)]) (N := ["writer", "begins", "rules", "ends", "at_begins", "at_entries", "at_ends", "text", "row", "entry", "end"]) (sc := fnScope st_most_letters_) (by decide +kernel))
        (fun _ _ _ _ _ => pg_name (i := 10) sc_places.nd rfl (Or.inl rfl)) (fun _ _ _ _ _ => pts_one (pt_cmp (pc_notN (pv 10)))) (fun _ _ _ _ _ => pe_c Cl hr (by decide) (by rfl) (pa_cons (pe_tup (pa_cons (pv 10) pa_nil)) pa_nil)))
      (pss_one (ps_ret (pe_callB (cr_max rfl) (by rfl) B.max (by decide +kernel) (pa_cons (pe_op op_cat (pe_op op_cat (pv 4) (pv 5)) (pv 6)) pa_nil))))))), ?_⟩
    refine ⟨_, rfl, a, _, rfl, SqT.of ha1, rfl, _, _, rfl, _, _, rfl, _, _, rfl, rfl, ?_⟩
    -- the begins
    refine ⟨_, rfl, ba, rfl, ⟨_, SqT.of tb1⟩, fun D1 hD1 => ?_⟩
    refine lc_tup (K := K) (a := ba) (xs := W.begins.map V.str) (fun i H' => Same H H' ∧ H' D1 = some (.lst ((iN ((W.begins.take i).map (·.length))).map V.int))) ⟨same_new hD1, upd_same⟩ (fun i H' _ h => SqT.of (h.1 _ _ tb1)) ?_ ?_
    · rintro i x H1 hi ⟨s1, hL⟩
      obtain ⟨z, hz, rfl⟩ : ∃ z, W.begins[i]? = some z ∧ x = V.str z := by
        rw [List.getElem?_map] at hi
        cases e : W.begins[i]? with
        | none =>
          rw [e] at hi
          cases hi
        | some u =>
          rw [e] at hi
          exact ⟨u, rfl, (Option.some.inj hi).symm⟩
      have zl := (hW.b3 z (List.mem_of_getElem? hz)).len
      refine ⟨rfl, _, rfl, z, rfl, Nat.le_trans zl (by decide), _, hL, ?_, Same.put s1 hD1, ?_⟩
      · rw [iN_len, List.length_map, List.length_take]
        exact lt_line (by omega)
      · rw [upd_same, take_map_more hz, iN_app]
    rintro H1 ⟨s1, hL1⟩
    rw [List.length_map, List.take_length] at hL1
    -- the entries
    refine ⟨_, rfl, ra, rfl, ⟨_, SqT.of (s1 _ _ tr1)⟩, fun D2 hD2 => ?_⟩
    have D20 : H D2 = none := Same.free s1 hD2
    have n12 : D1 ≠ D2 := ne_of_none hL1 hD2
    have lenr : rx.length = W.rules.length := by rw [tr2.len, List.length_map]
    refine walk_tup (K := K) (a := ra) (xs := rx) (fun i H' => Same H1 H' ∧ H' D2 = some (.lst ((iN ((W.rules.take i).flatMap fun row => row.flatMap entL)).map V.int))) ⟨same_new hD2, upd_same⟩ (fun i H' _ h => SqT.of (h.1 _ _ (s1 _ _ tr1))) ?_ ?_
    · rintro i x H2 hi ⟨s2, hL2⟩
      have hlt : i < W.rules.length := by
        have q := (List.getElem?_eq_some_iff.mp hi).1
        omega
      have hg := List.getElem?_eq_getElem hlt
      obtain ⟨v, hv, tv⟩ := tr2.at hg
      rw [hi] at hv
      cases hv
      have mem := List.getElem_mem hlt
      have rsz := hW.r3 _ mem
      obtain ⟨wa, wx, rfl, w1, w2⟩ := tv.tup_inv
      have lenw : wx.length = W.rules[i].length := by rw [w2.len, List.length_map]
      have s12 := Same.trans s1 s2
      refine ⟨rfl, ?_⟩
      refine ⟨_, rfl, wa, rfl, ⟨_, SqT.of (s12 _ _ w1)⟩, ?_⟩
      refine walk_tup (K := K) (a := wa) (xs := wx) (fun j H' => Same H1 H' ∧ H' D2 = some (.lst ((iN (((W.rules.take i).flatMap fun row => row.flatMap entL) ++ (W.rules[i].take j).flatMap entL)).map V.int))) ⟨s2, ?_⟩ (fun j H' _ h => SqT.of ((Same.trans s1 h.1) _ _ w1)) ?_ ?_
      · rw [hL2]
        show _ = some (HO.lst ((iN (((W.rules.take i).flatMap fun row => row.flatMap entL) ++ [])).map V.int))
        rw [List.append_nil]
      · rintro j y H3 hj ⟨s3, hL3⟩
        have jlt : j < W.rules[i].length := by
          have q := (List.getElem?_eq_some_iff.mp hj).1
          omega
        have hgj := List.getElem?_eq_getElem jlt
        obtain ⟨u, hu, tu⟩ := w2.at hgj
        rw [hj] at hu
        cases hu
        have esz := rsz.2 _ (List.getElem_mem jlt)
        refine ⟨rfl, ?_⟩
        refine ⟨_, rfl, _, rfl, ?_⟩
        generalize hE : W.rules[i][j] = en at *
        cases en with
        | none =>
          obtain rfl := tu.non_inv
          refine iteF' (by rw [decide_eq_true rfl]; rfl) ⟨s3, ?_⟩
          rw [hL3, flat_take hgj, ← List.append_assoc]
          show _ = some (HO.lst ((iN (_ ++ [])).map V.int))
          rw [List.append_nil]
        | some e =>
          obtain ⟨tg, fs⟩ := e
          obtain ⟨_, fsz⟩ := esz tg fs rfl
          obtain ⟨ea', es, rfl, y7, y8⟩ := tu.tup_inv
          cases y8 with
          | @cons vtg x9 _ _ z1 z2 =>
          cases z2 with
          | @cons vfs x10 _ _ z3 z4 =>
          cases z4
          have s13 := Same.trans s1 s3
          refine iteT' (by rw [decide_eq_false (by intro z; cases z)]; rfl) ?_
          refine ⟨_, rfl, ea', _, _, _, rfl, rfl, SqT.of (s13 _ _ y7), atI_nat (j := 1) rfl, vfs, fs, rfl, z3.mono (Same.tk s13), fsz, fun H4 s4 => ?_⟩
          refine ⟨_, s4 _ _ hL3, ?_, Same.put (Same.trans s3 s4) hD2, ?_⟩
          · rw [iN_len, List.length_append]
            have a1 := n2 i
            have a2 := n3 _ mem j
            exact lt_line (by omega)
          · rw [upd_same, flat_take hgj, ← List.append_assoc]
            show _ = some (HO.lst ((iN (_ ++ [letF fs])).map V.int))
            rw [iN_app]
      · rintro H3 ⟨s3, hL3⟩
        refine ⟨s3, ?_⟩
        rw [hL3, lenw, List.take_length, flat_take hg]
    rintro H2 ⟨s2, hL2⟩
    rw [lenr, List.take_length] at hL2
    have s12 := Same.trans s1 s2
    -- the ends
    refine ⟨_, rfl, ea, rfl, ⟨_, SqT.of (s12 _ _ te1)⟩, fun D3 hD3 => ?_⟩
    have lene : ex.length = W.ends.length := by rw [te2.len, List.length_map]
    refine lc_tup (K := K) (a := ea) (xs := ex) (fun i H' => Same H2 H' ∧ H' D3 = some (.lst ((iN ((W.ends.take i).flatMap endL)).map V.int))) ⟨same_new hD3, upd_same⟩ (fun i H' _ h => SqT.of (h.1 _ _ (s12 _ _ te1))) ?_ ?_
    · rintro i x H3 hi ⟨s3, hL3⟩
      have hlt : i < W.ends.length := by
        have q := (List.getElem?_eq_some_iff.mp hi).1
        omega
      have hg := List.getElem?_eq_getElem hlt
      obtain ⟨v, hv, tv⟩ := te2.at hg
      rw [hi] at hv
      cases hv
      have esz := hW.e2 _ (List.getElem_mem hlt)
      generalize hE : W.ends[i] = en at *
      refine ⟨rfl, ?_⟩
      refine ⟨_, rfl, _, rfl, ?_⟩
      cases en with
      | none =>
        obtain rfl := tv.non_inv
        refine iteF' (by rw [decide_eq_true rfl]; rfl) ⟨s3, ?_⟩
        rw [hL3, flat_take hg]
        show _ = some (HO.lst ((iN (_ ++ [])).map V.int))
        rw [List.append_nil]
      | some r =>
        have rsz := esz r rfl
        have s13 := Same.trans s12 s3
        have nv : x ≠ .non := by
          obtain ⟨q1, q2, rfl, _⟩ := tv.tup_inv
          intro z
          cases z
        refine iteT' (by rw [decide_eq_false nv]; rfl) ?_
        refine ⟨_, rfl, (by show 1 ≤ sizeLine; decide), fun u hu => ?_⟩
        have s3u := Same.trans s3 (same_new (o := .tup [x]) hu)
        refine ⟨.ref u, [r], rfl, .tup upd_same (.cons (tv.mono (Same.tk (Same.trans s12 s3u))) .nil), ⟨(by show 1 ≤ 10; decide), fun q hq => by rw [List.mem_singleton.mp hq]; exact rsz⟩, fun H4 s4 => ?_⟩
        refine ⟨_, (Same.trans (same_new hu) s4) _ _ hL3, ?_, Same.put (Same.trans s3u s4) hD3, ?_⟩
        · rw [iN_len]
          exact lt_line (Nat.le_trans (n4 i) (by decide))
        · rw [upd_same, flat_take hg]
          show _ = some (HO.lst ((iN (_ ++ [letF [r]])).map V.int))
          rw [iN_app]
    · rintro H3 ⟨s3, hL3⟩
      rw [lene, List.take_length] at hL3
      have e1 := n2 W.rules.length
      have e2 := n4 W.ends.length
      rw [List.take_length] at e1 e2
      refine ⟨_, rfl, _, rfl, D1, D2, _, _, rfl, rfl, (Same.trans s2 s3) _ _ hL1, s3 _ _ hL2, ?_, fun p hp => ?_⟩
      · rw [iN_len, iN_len, List.length_map]
        exact Nat.le_of_lt (lt_line (by omega))
      · refine ⟨_, rfl, p, D3, _, _, rfl, rfl, upd_same, by rw [upd_ne (ne_of_none hL3 hp)]; exact hL3, ?_, fun q hq => ?_⟩
        · rw [List.length_append, iN_len, iN_len, iN_len, List.length_map]
          exact Nat.le_of_lt (lt_line (by omega))
        · have eq : ∀ Hx : Hp, upd Hx q (HO.lst ((iN (W.begins.map (·.length))).map V.int ++ (iN (W.rules.flatMap fun row => row.flatMap entL)).map V.int ++ (iN (W.ends.flatMap endL)).map V.int)) q = some (HO.lst ((iN (placesW W)).map V.int)) := fun Hx => by
            rw [upd_same, ← iN_cat, ← iN_cat]
            rfl
          refine ⟨q, _, rfl, SqL.of (eq _), ?_, fun m hm hle => ?_⟩
          · unfold iN placesW
            rw [List.length_map, List.length_append, List.length_append, List.length_map]
            have := hW.b1
            omega
          · unfold iN at hm hle
            obtain ⟨mm, hmm, rfl⟩ := List.mem_map.mp hm
            refine k mm _ (Same.trans (Same.trans (Same.trans s12 s3) (same_new hp)) (same_new hq)) hmm fun n hn => ?_
            have q := hle (n : Int) (List.mem_map_of_mem hn)
            omega
end

/-! ### joined: a def with a star -/
section
open PySem.Spec PyProof.Rows
/-- a def with a star, under its name -/
structure CalR (P : Program) (w : World) (K : PySem.W.Frag) (mg : Str → Option Value) (base : Heap) (k : Nat) (x : Str) (sp : Sp) : Prop where
  ex : ∃ f : Addr, FnR P w K mg base CX0 k f sp ∧ mg x = some (.ref f) ∧ PySem.W.keepIn K (.ref f) = true
theorem pe_r {X : Cx} {k j : Nat} {x : Str} {sp : Sp} {p pos : Pos} {e : Expr} {es : List Expr} {t : TA} (c : CalR X.prog X.w X.K X.mg X.base k x sp) (hr : Room j X.A) (hk : k ≤ j) (hg : Gl X x) (ha : PA X (e :: es) t)
    (hdb : (x == ("__debug__" : Str)) = false := by decide) (he : starEach (e :: es) X.env = (false, eval e X.env) :: starEach es X.env := by rfl) (hpl : (backTo pos (starEach es X.env)).any (·.1) = false := by rfl) :
    PE X (.Call (.Name x p) (e :: es) [] pos) (fun σ H Q => t σ H fun vs H1 => sp vs H1 Q E0) := by
  obtain ⟨f, F, hm, kp⟩ := c.ex
  exact ⟨fun pins s σ H Q I h => wpAny_Call_Name_kw (ld_glob I hg hm (PySem.W.callWith_K (h₀ := X.base) I.ok.mod.kin kp (thn (ha.run pos pins s σ H _ I h) fun us s1 ⟨vs, H1, I1, r, q⟩ => ⟨I1.kIn, wpAny_call (run_fnR F (hr.mono hk) pass0 I1 r q)⟩) he hpl) hdb)⟩
theorem pe_r0 {X : Cx} {k j : Nat} {x : Str} {sp : Sp} {p pos : Pos} (c : CalR X.prog X.w X.K X.mg X.base k x sp) (hr : Room j X.A) (hk : k ≤ j) (hg : Gl X x) (hdb : (x == ("__debug__" : Str)) = false := by decide) :
    PE X (.Call (.Name x p) [] [] pos) (fun _ H Q => sp [] H Q E0) := by
  obtain ⟨f, F, hm, kp⟩ := c.ex
  exact ⟨fun pins s σ H Q I h => wpAny_Call_Name_kw (ld_glob I hg hm (PySem.W.callWith_K0 I.kIn kp (wpAny_call (run_fnR (us := []) F (hr.mono hk) pass0 I .nil h))) hdb)⟩
end
/-- recipes that may be put together: no empty pieces, not many letters -/
structure JOk (rs : List Rc) : Prop where
  many : rs.length ≤ 10
  len : ∀ r ∈ rs, r.length ≤ 100
  lt : lets rs.flatten ≤ 100000
  low : lowR rs.flatten
  ne : NE rs.flatten
def spJoined : Sp := fun vs H Q _ => ∃ rs : List Rc, TpAll H vs (rs.map Rc.d) ∧ JOk rs ∧ ∀ (t : Addr) H', Same H H' → H' t = some (.tup ((normal rs.flatten).map Pt.v)) → Q (.ref t) H'
theorem sc_joined : FnScope ["recipes", "parts", "recipe", "part"] (([] : List Str) ++ (["recipes"] : List Str)) (fnScope st_joined_) := fnScope_by (by decide +kernel)
section
variable {P : Program} {w : World} {K : PySem.W.Frag} {mg : Str → Option Value} {base : Heap} {f : Addr} {oc kV dc pm cd ct : Value} {od an : Option Addr} {sl : Array (Option Value)}
theorem cal_joined_ (l : K.lookup f = some ⟨oc, od, .func (PySem.W.fnOf "joined" "joined" (C8.fnArgs st_joined_) (fnBody st_joined_) (fnScope st_joined_) .none kV dc pm an cd ct), sl⟩) (hc : PySem.W.codeIn K cd "joined" = true) (hk : PySem.W.keepIn K (.ref f) = true) (hm : mg "joined" = some (.ref f)) (B : BN2 mg) :
    CalR P w K mg base 1 "joined" spJoined := by
  refine ⟨f, FnR.imp (StX.fn_star (ps := []) (k := 0) (CX := CX0) (sp := fun vs H Q _ => ∃ (a : Addr) (xs : List V) (rs : List Rc), vs = [.ref a] ∧ H a = some (.tup xs) ∧ TpAll H xs (rs.map Rc.d) ∧ JOk rs ∧ ∀ (t : Addr) H', Same H H' → H' t = some (.tup ((normal rs.flatten).map Pt.v)) → Q (.ref t) H') l hc sc_joined StX.cxUp_none (fun us rest hl => ?_) (fun A outer s H vs Q E hr h => ?_)) ?_, hm, hk⟩
  · cases us with
    | cons a r => cases hl
    | nil => cases rest with
      | nil => rfl
      | cons a r => rfl
  · obtain ⟨a, xs, rs, rfl, ha, h2, J, k⟩ := h
    suffices made : ∃ t, PSs (cxOf CX0 P w K mg base ["recipes", "parts", "recipe", "part"] "joined" (fnScope st_joined_) f cd A outer s H E).nox (fnBody st_joined_) t ∧ t { nx := fun _ H' => Q .non H', rt := Q } (L2.start ["recipes", "parts", "recipe", "part"] [.ref a]) H by
      obtain ⟨t, h, q⟩ := made
      exact ⟨t, h.nox, q⟩
    refine ⟨_, pss_cons (ps_set (i := 1) sc_joined.nd rfl (Or.inl rfl) (pe_lst pa_nil))
      (pss_cons (ps_for PassesOwn.never rfl (pi_tup (pv 0)) (pg_name (i := 2) sc_joined.nd rfl (Or.inl rfl))
        (pss_one (ps_for PassesOwn.never rfl (pi_tup (pv 2)) (pg_name (i := 3) sc_joined.nd rfl (Or.inl rfl))
          (pss_one (ps_if (PW.pt (pw_and (pt_val (pe_callB call_isi (by rfl) B.isi (by decide +kernel) (pa_cons (pv 3) (pa_cons (pe_bltn (v := .ty "str") (by rfl) B.str (by decide +kernel) rfl) pa_nil))))
              (pw_and (pt_truth (pv 1) (fun _ => rfl)) (pw_and1 (pt_val (pe_callB call_isi (by rfl) B.isi (by decide +kernel) (pa_cons (pe_ix ix_list (pv 1) (pe_un un_neg pe_int) (fun _ _ => rfl)) (pa_cons (pe_bltn (v := .ty "str") (by rfl) B.str (by decide +kernel) rfl) pa_nil))))))))
            (pss_one (ps_asg (pe_op op_add_str (pe_ix ix_list (pv 1) (pe_un un_neg pe_int) (fun _ _ => rfl)) (pv 3)) (pg_sub (pv 1) (pe_un un_neg pe_int) set_list)))
            (pss_one (ps_expr (pe_bm PySem.F.plainAttrs_list PySem.F.slot_list_append PySem.F.type_list_append mt_append (pv 1) (pa_cons (pv 3) pa_nil)))))))))
      (pss_one (ps_ret (pe_callTy call_tuple_of (by rfl) B.tuple (by decide +kernel) (pa_cons (pv 1) pa_nil))))), ?_⟩
    refine ⟨Nat.zero_le _, fun q hq => ?_⟩
    have lenx : xs.length = rs.length := by rw [h2.len, List.length_map]
    -- what is made so far is never too large
    have inv : ∀ f : Rc, (∃ g, rs.flatten = f ++ g) → lets (normal f) ≤ 100000 ∧ (normal f).length ≤ 1000 := fun f ⟨g, e⟩ => by
      obtain ⟨_, h2, h3, _⟩ := normal_ok f []
      have e1 : lets (normal f) = 0 + lets f := h2
      have e2 : (normal f).length ≤ 0 + f.length := h3
      have e3 := J.lt
      rw [e, lets_app] at e3
      have e4 : rs.flatten.length ≤ rs.length * 100 := by
        have z := flat_len (g := fun r : Rc => r) (n := 100) rs J.len
        have z2 : rs.flatMap (fun r => r) = rs.flatten := by rw [List.flatMap_def, List.map_id']
        rw [z2] at z
        exact z
      rw [e, List.length_append] at e4
      have e5 := J.many
      omega
    refine ⟨_, rfl, a, rfl, ⟨_, SqT.of (same_new hq _ _ ha)⟩, for_tup (K := K) (a := a) (xs := xs) (fun i σ H' => (∃ v2 v3 : Option V, σ = [some (.ref a), some (.ref q), v2, v3]) ∧ Same H H' ∧ H' q = some (.lst ((normal (rs.take i).flatten).map Pt.v)))
      ⟨⟨_, _, rfl⟩, same_new hq, upd_same⟩ (fun i σ H' _ h => SqT.of (h.2.1 _ _ ha)) ?_ ?_⟩
    · rintro i x σ H1 hi ⟨⟨v2, v3, rfl⟩, s1, hL⟩
      have hlt : i < rs.length := by
        have z := (List.getElem?_eq_some_iff.mp hi).1
        omega
      have hg := List.getElem?_eq_getElem hlt
      obtain ⟨v, hv, tv⟩ := h2.at hg
      rw [hi] at hv
      cases hv
      have sub : ∀ j, ∃ g, rs.flatten = ((rs.take i).flatten ++ rs[i].take j) ++ g := fun j => by
        refine ⟨rs[i].drop j ++ (rs.drop (i + 1)).flatten, ?_⟩
        have e : rs = rs.take i ++ rs[i] :: rs.drop (i + 1) := (List.take_append_drop i rs).symm.trans (by rw [List.drop_eq_getElem_cons hlt])
        have e2 : rs.flatten = (rs.take i).flatten ++ (rs[i] ++ (rs.drop (i + 1)).flatten) := by
          have z := congrArg List.flatten e
          rw [List.flatten_append, List.flatten_cons] at z
          exact z
        rw [e2, List.append_assoc, ← List.append_assoc (rs[i].take j), List.take_append_drop]
      have mem := List.getElem_mem hlt
      generalize hr' : rs[i] = r at *
      obtain ⟨ra, rx, rfl, r1, r2⟩ := tv.tup_inv
      obtain rfl := tpAll_parts r2
      refine ⟨_, rfl, ra, rfl, ⟨_, SqT.of (s1 _ _ r1)⟩, for_tup (K := K) (a := ra) (xs := r.map Pt.v) (fun j σ H' => (∃ v3 : Option V, σ = [some (.ref a), some (.ref q), some (.ref ra), v3]) ∧ Same H H' ∧ H' q = some (.lst ((normal ((rs.take i).flatten ++ r.take j)).map Pt.v)))
        ⟨⟨_, rfl⟩, s1, ?_⟩ (fun j σ H' _ h => SqT.of (h.2.1 _ _ r1)) ?_ ?_⟩
      · rw [hL]
        show _ = some (HO.lst ((normal ((rs.take i).flatten ++ [])).map Pt.v))
        rw [List.append_nil]
      · rintro j y σ H2 hj ⟨⟨v3', rfl⟩, s2, hL2⟩
        obtain ⟨u, hu, rfl⟩ : ∃ u, r[j]? = some u ∧ y = Pt.v u := by
          rw [List.getElem?_map] at hj
          cases e : r[j]? with
          | none =>
            rw [e] at hj
            cases hj
          | some u =>
            rw [e] at hj
            exact ⟨u, rfl, (Option.some.inj hj).symm⟩
        have step : normal ((rs.take i).flatten ++ r.take (j + 1)) = nstep (normal ((rs.take i).flatten ++ r.take j)) u := by
          rw [List.take_add_one, hu, ← List.append_assoc]
          exact normal_snoc _ u
        have uin : u ∈ rs.flatten := List.mem_flatten.mpr ⟨r, mem, List.mem_of_getElem? hu⟩
        obtain ⟨b1, b2⟩ := inv _ (sub j)
        have b3 := (inv _ (sub (j + 1))).1
        rw [step] at b3 ⊢
        generalize normal ((rs.take i).flatten ++ r.take j) = g at *
        have push : nstep g u = g ++ [u] → ∃ (l : Addr) (zs : List V) (y : V), V.ref q = V.ref l ∧ [u.v] = [y] ∧ H2 l = some (.lst zs) ∧ zs.length < sizeLine ∧ ((∃ v3 : Option V, [some (V.ref a), some (.ref q), some (.ref ra), some u.v] = [some (.ref a), some (.ref q), some (.ref ra), v3]) ∧ Same H (upd H2 l (.lst (zs ++ [y]))) ∧ upd H2 l (.lst (zs ++ [y])) q = some (.lst ((nstep g u).map Pt.v))) := fun e => by
          refine ⟨q, _, _, rfl, rfl, hL2, ?_, ⟨_, rfl⟩, Same.put s2 hq, ?_⟩
          · rw [List.length_map]
            exact lt_line (by omega)
          · rw [upd_same, e, List.map_append]
            rfl
        obtain ⟨ty, tb, t1, t2, t3, t4⟩ := isi_pt (K := K) (H := H2) u
        refine ⟨_, rfl, u.v, _, ty, _, tb, rfl, .ty _, t1, t2, _, rfl, ?_⟩
        cases tb with
        | false =>
          obtain ⟨m, rfl⟩ := t4 rfl
          exact iteF (iteF ⟨_, rfl, .inl ⟨rfl, _, SqL.of hL2⟩, _, rfl, push rfl⟩)
        | true =>
          obtain ⟨z, rfl⟩ := t3 rfl
          have zne : z ≠ "" := fun e => by
            have := J.ne z uin
            rw [len_empty e] at this
            omega
          refine iteT ⟨_, rfl, _, .inl ⟨_, SqL.of hL2, rfl⟩, ?_⟩
          rcases List.eq_nil_or_concat g with rfl | ⟨g', l, rfl⟩
          · exact iteF (iteF ⟨_, rfl, .inl ⟨rfl, _, SqL.of hL2⟩, _, rfl, push (by rw [nstep_first, if_neg zne]; rfl)⟩)
          · rw [List.concat_eq_append] at *
            have en : (!((g' ++ [l]).map Pt.v).isEmpty) = true := by
              rw [List.map_append]
              cases g'.map Pt.v <;> rfl
            rw [en]
            refine iteT ?_
            have hL3 : H2 q = some (.lst (g'.map Pt.v ++ [l.v])) := by
              rw [hL2, List.map_append]
              rfl
            obtain ⟨ty2, tb2, u1, u2, u3, u4⟩ := isi_pt (K := K) (H := H2) l
            refine ⟨_, rfl, _, rfl, q, _, _, l.v, rfl, rfl, SqL.of hL3, atI_last _ _, l.v, _, ty2, _, tb2, rfl, .ty _, u1, u2, _, rfl, ?_⟩
            cases tb2 with
            | false =>
              obtain ⟨m, rfl⟩ := u4 rfl
              exact iteF ⟨_, rfl, .inl ⟨rfl, _, SqL.of hL2⟩, _, rfl, push (by rw [nstep_behind, if_neg zne])⟩
            | true =>
              obtain ⟨y', rfl⟩ := u3 rfl
              have hsz : y'.length + z.length ≤ sizeLine := by
                rw [nstep_glue, lets_app, lets_one] at b3
                have e3 : (Pt.s (y' ++ z)).let = y'.length + z.length := len_cat y' z
                exact Nat.le_trans (show y'.length + z.length ≤ 100000 by omega) (by decide)
              refine iteT ⟨_, rfl, _, rfl, q, _, _, .str y', rfl, rfl, SqL.of hL3, atI_last _ _, _, rfl, y', z, rfl, rfl, hsz, _, rfl, _, rfl, q, _, _, g'.length, rfl, rfl, hL3, ?_, ?_⟩
              · rw [List.length_append, List.length_map, List.length_singleton]
                unfold ixN
                rw [if_neg (by omega), if_pos (by omega)]
                refine congrArg some ?_
                omega
              · refine ⟨⟨_, rfl⟩, Same.put s2 hq, ?_⟩
                rw [upd_same, nstep_glue, List.map_append]
                refine congrArg some (congrArg HO.lst ?_)
                rw [List.set_append_right _ _ (by rw [List.length_map]; exact Nat.le_refl _), List.length_map, Nat.sub_self]
                rfl
      · rintro σ H2 ⟨⟨v3', rfl⟩, s2, hL2⟩
        refine ⟨⟨_, _, rfl⟩, s2, ?_⟩
        rw [hL2, List.length_map, List.take_length, List.take_add_one, hg, List.flatten_append]
        have e : (some r).toList.flatten = r := by
          show [r].flatten = r
          rw [List.flatten_cons, List.flatten_nil, List.append_nil]
        rw [e]
    · rintro σ H1 ⟨⟨v2, v3, rfl⟩, s1, hL⟩
      rw [lenx, List.take_length] at hL
      exact ⟨_, rfl, q, _, rfl, .inl ⟨SqL.of hL, fun t ht => k t _ (Same.trans s1 (same_new ht)) upd_same⟩⟩
  · rintro vs H Q E ⟨rs, h2, J, k⟩
    refine ⟨[], vs, rfl, rfl, ?_, fun p hp => ⟨p, vs, rs, rfl, upd_same, h2.mono (tk_new hp), J, fun t H' s' ht => k t H' (Same.trans (same_new hp) s') ht⟩⟩
    rw [h2.len, List.length_map]
    exact Nat.le_trans J.many (by decide)
end

/-! ### what a whole word does, as one entry -/
def putR (fl : List Rc) : Pt → Rc
  | .s z => [.s z]
  | .b i => fl.getD i []
def put (fl : List Rc) (r : Rc) : Rc := normal (r.map (putR fl)).flatten
def ownF (B : Nat) : List Rc := (List.range B).map fun i => [Pt.b i]
def stepT (fl : List Rc) : Option (Nat × List Rc) → Option (Nat × List Rc)
  | none => none
  | some (t, fs) => some (t, fs.map (put fl))
def stepE (W : Wr) (o : Option (Nat × List Rc)) (k : Nat) : Option (Nat × List Rc) := match o with
  | none => none
  | some (st, fl) => stepT fl ((W.rules.getD st []).getD k none)
def entW (W : Wr) (st : Nat) (ns : List Nat) : Option (Nat × List Rc) := ns.foldl (stepE W) (some (st, ownF W.begins.length))
def markW (W : Wr) (ns : List Nat) : Wr := ⟨W.begins, (List.range W.rules.length).map fun i => W.rules.getD i [] ++ [entW W i ns], W.ends⟩
def unm (k : Nat) (ns : List Nat) (some : List Nat) : List Nat := some.flatMap fun x => if x = k then ns else [x]
/-! the texts -/
theorem mk_cpsE (ts : List Str) (r : Rc) : (mk ts r).cps.toList = (r.map (ptx ts)).flatMap fun z => z.cps.toList := by
  unfold mk
  rw [join_cps, List.flatMap_def]
theorem cps_cat (x y : Str) : (x ++ y).cps.toList = x.cps.toList ++ y.cps.toList := by
  show (x.cps ++ y.cps).toList = _
  rw [Array.toList_append]
theorem str_ext {x y : Str} (h : x.cps.toList = y.cps.toList) : x = y := Str.ext' (Array.ext' h)
theorem mk_app (ts : List Str) (a b : Rc) : (mk ts (a ++ b)).cps.toList = (mk ts a).cps.toList ++ (mk ts b).cps.toList := by
  rw [mk_cpsE, mk_cpsE, mk_cpsE, List.map_append, List.flatMap_append]
theorem mk_one (ts : List Str) (q : Pt) : (mk ts [q]).cps.toList = (ptx ts q).cps.toList := by
  rw [mk_cpsE, List.map_cons, List.map_nil, List.flatMap_cons, List.flatMap_nil, List.append_nil]
theorem mk_nstep (ts : List Str) (f : Rc) (q : Pt) : (mk ts (nstep f q)).cps.toList = (mk ts f).cps.toList ++ (ptx ts q).cps.toList := by
  have push : (mk ts (f ++ [q])).cps.toList = (mk ts f).cps.toList ++ (ptx ts q).cps.toList := by rw [mk_app, mk_one]
  cases q with
  | b i => exact push
  | s z =>
    have empty : z = "" → (ptx ts (.s z)).cps.toList = [] := fun e => by
      have := len_empty e
      show z.cps.toList = []
      exact List.eq_nil_of_length_eq_zero (by rw [Array.length_toList]; exact this)
    rcases List.eq_nil_or_concat f with rfl | ⟨g, l, rfl⟩
    · rw [nstep_first]
      by_cases e : z = ""
      · rw [if_pos e, empty e, List.append_nil]
      · rw [if_neg e]
        exact push
    · rw [List.concat_eq_append] at *
      cases l with
      | s y =>
        rw [nstep_glue, mk_app, mk_app, mk_one, mk_one, List.append_assoc]
        show _ ++ (y ++ z).cps.toList = _ ++ (y.cps.toList ++ z.cps.toList)
        rw [cps_cat]
      | b i =>
        rw [nstep_behind]
        by_cases e : z = ""
        · rw [if_pos e, empty e, List.append_nil]
        · rw [if_neg e]
          exact push
theorem mk_foldE (ts : List Str) : ∀ (ps f : Rc), (mk ts (ps.foldl nstep f)).cps.toList = (mk ts f).cps.toList ++ (mk ts ps).cps.toList
  | [], f => by
    have e : (mk ts []).cps.toList = [] := by rw [mk_cpsE]; rfl
    rw [e, List.append_nil]
    rfl
  | q :: r, f => by
    rw [List.foldl_cons, mk_foldE ts r, mk_nstep, List.append_assoc]
    have e : q :: r = [q] ++ r := rfl
    rw [e, mk_app, mk_one]
theorem mk_normal (ts : List Str) (ps : Rc) : mk ts (normal ps) = mk ts ps := by
  refine str_ext ?_
  have e : (mk ts []).cps.toList = [] := by rw [mk_cpsE]; rfl
  unfold normal
  rw [mk_foldE, e, List.nil_append]
theorem mk_put (ts : List Str) (fl : List Rc) (r : Rc) : mk ts (put fl r) = mk (fl.map (mk ts)) r := by
  unfold put
  rw [mk_normal]
  refine str_ext ?_
  induction r with
  | nil => rw [mk_cpsE, mk_cpsE]; rfl
  | cons q r ih =>
    have e : q :: r = [q] ++ r := rfl
    rw [List.map_cons, List.flatten_cons, mk_app, ih, e, mk_app, mk_one]
    congr 1
    cases q with
    | s z => exact mk_one ts (.s z)
    | b i =>
      show (mk ts (fl.getD i [])).cps.toList = ((fl.map (mk ts)).getD i "").cps.toList
      rw [List.getD_eq_getElem?_getD, List.getD_eq_getElem?_getD, List.getElem?_map]
      cases fl[i]? with
      | none => rw [mk_cpsE]; rfl
      | some x => rfl
theorem own_mk {ts : List Str} {B : Nat} (h : ts.length = B) : (ownF B).map (mk ts) = ts := by
  unfold ownF
  rw [List.map_map]
  refine List.ext_getElem? fun i => ?_
  rw [List.getElem?_map]
  by_cases hi : i < B
  · rw [List.getElem?_range hi, List.getElem?_eq_getElem (by omega)]
    show some (mk ts [Pt.b i]) = some ts[i]
    refine congrArg some (str_ext ?_)
    rw [mk_one]
    show (ts.getD i "").cps.toList = _
    rw [List.getD_eq_getElem?_getD, List.getElem?_eq_getElem (by omega)]
    rfl
  · rw [List.getElem?_eq_none (by rw [List.length_range]; omega), List.getElem?_eq_none (by omega)]
    rfl
theorem fold_noneE (W : Wr) : ∀ l : List Nat, l.foldl (stepE W) none = none
  | [] => rfl
  | _ :: r => fold_noneE W r
theorem fold_ent (W : Wr) (ts : List Str) : ∀ (ns : List Nat) (st : Nat) (fl : List Rc), ns.foldl (stepW W) (some (st, fl.map (mk ts))) = (ns.foldl (stepE W) (some (st, fl))).map fun x => (x.1, x.2.map (mk ts))
  | [], _, _ => rfl
  | k :: r, st, fl => by
    rw [List.foldl_cons, List.foldl_cons]
    show r.foldl (stepW W) (goE (fl.map (mk ts)) ((W.rules.getD st []).getD k none)) = (r.foldl (stepE W) (stepT fl ((W.rules.getD st []).getD k none))).map _
    cases (W.rules.getD st []).getD k none with
    | none =>
      show r.foldl (stepW W) none = (r.foldl (stepE W) none).map _
      rw [fold_none, fold_noneE]
      rfl
    | some e =>
      obtain ⟨t, fs⟩ := e
      show r.foldl (stepW W) (some (t, fs.map (mk (fl.map (mk ts))))) = (r.foldl (stepE W) (some (t, fs.map (put fl)))).map _
      have q := fold_ent W ts r t (fs.map (put fl))
      rw [List.map_map] at q
      have e2 : (mk ts ∘ put fl) = mk (fl.map (mk ts)) := funext fun x => mk_put ts fl x
      rw [e2] at q
      exact q
theorem goE_ent (W : Wr) {ts : List Str} (h : ts.length = W.begins.length) (st : Nat) (ns : List Nat) : goE ts (entW W st ns) = ns.foldl (stepW W) (some (st, ts)) := by
  have q := fold_ent W ts ns st (ownF W.begins.length)
  rw [own_mk h] at q
  rw [q]
  unfold entW
  cases ns.foldl (stepE W) (some (st, ownF W.begins.length)) with
  | none => rfl
  | some x => rfl
theorem mark_row {W : Wr} {ns : List Nat} {st k : Nat} (h : st < W.rules.length) (hl : (W.rules.getD st []).length = k) (x : Nat) (hx : x ≤ k) : ((markW W ns).rules.getD st []).getD x none = if x = k then entW W st ns else (W.rules.getD st []).getD x none := by
  have e : (markW W ns).rules.getD st [] = W.rules.getD st [] ++ [entW W st ns] := by
    show ((List.range W.rules.length).map fun i => W.rules.getD i [] ++ [entW W i ns]).getD st [] = _
    rw [List.getD_eq_getElem?_getD, List.getElem?_map, List.getElem?_range h]
    rfl
  rw [e, List.getD_eq_getElem?_getD]
  by_cases c : x = k
  · rw [if_pos c, List.getElem?_append_right (by omega), hl, c, Nat.sub_self]
    rfl
  · rw [if_neg c, List.getElem?_append_left (by omega), ← List.getD_eq_getElem?_getD]
/-- a state and texts that fit -/
def Fit (S B : Nat) : Option (Nat × List Str) → Prop
  | none => True
  | some (st, ts) => st < S ∧ ts.length = B
theorem fit_step {k S B : Nat} {W : Wr} (h : WOkB k S B W) {o : Option (Nat × List Str)} (ho : Fit S B o) {x : Nat} (hx : x < k) : Fit S B (stepW W o x) := by
  cases o with
  | none => exact True.intro
  | some s =>
    obtain ⟨st, ts⟩ := s
    obtain ⟨row, en, _, _, h3, h4⟩ := ent_at h ho.1 hx
    show Fit S B (goE ts ((W.rules.getD st []).getD x none))
    rw [h3]
    cases en with
    | none => exact True.intro
    | some e =>
      obtain ⟨t, fs⟩ := e
      obtain ⟨g1, g2⟩ := h4 t fs rfl
      exact ⟨g1, by rw [List.length_map]; exact g2.len⟩
theorem fit_fold {k S B : Nat} {W : Wr} (h : WOkB k S B W) : ∀ (l : List Nat) (o : Option (Nat × List Str)), (∀ i ∈ l, i < k) → Fit S B o → Fit S B (l.foldl (stepW W) o)
  | [], _, _, ho => ho
  | x :: r, _, hl, ho => fit_fold h r _ (fun i hi => hl i (List.mem_cons_of_mem _ hi)) (fit_step h ho (hl x List.mem_cons_self))
theorem mark_run {k S B : Nat} {W : Wr} (h : WOkB k S B W) {ns : List Nat} (hn : ∀ i ∈ ns, i < k) : ∀ (some' : List Nat) (o : Option (Nat × List Str)), (∀ i ∈ some', i ≤ k) → Fit S B o → some'.foldl (stepW (markW W ns)) o = (unm k ns some').foldl (stepW W) o
  | [], _, _, _ => rfl
  | x :: r, o, hl, ho => by
    have hx := hl x List.mem_cons_self
    have step : stepW (markW W ns) o x = ((if x = k then ns else [x]) : List Nat).foldl (stepW W) o := by
      cases o with
      | none =>
        rw [fold_none]
        rfl
      | some s =>
        obtain ⟨st, ts⟩ := s
        have hs : st < W.rules.length := by rw [h.r1]; exact ho.1
        have hrow : (W.rules.getD st []).length = k := by
          rw [List.getD_eq_getElem?_getD, List.getElem?_eq_getElem hs]
          exact (h.r2 _ (List.getElem_mem hs)).1
        show goE ts (((markW W ns).rules.getD st []).getD x none) = _
        rw [mark_row hs hrow x hx]
        by_cases c : x = k
        · rw [if_pos c, if_pos c]
          exact goE_ent W (by rw [h.b1]; exact ho.2) st ns
        · rw [if_neg c, if_neg c]
          rfl
    have hu : ∀ i ∈ ((if x = k then ns else [x]) : List Nat), i < k := fun i hi => by
      by_cases c : x = k
      · rw [if_pos c] at hi
        exact hn i hi
      · rw [if_neg c] at hi
        rw [List.mem_singleton.mp hi]
        omega
    have q := mark_run h hn r (((if x = k then ns else [x]) : List Nat).foldl (stepW W) o) (fun i hi => hl i (List.mem_cons_of_mem _ hi)) (fit_fold h _ o hu ho)
    have e : unm k ns (x :: r) = ((if x = k then ns else [x]) : List Nat) ++ unm k ns r := by
      unfold unm
      rw [List.flatMap_cons]
    rw [List.foldl_cons, step, q, e, List.foldl_append]
theorem mark_tell {k S B : Nat} {W : Wr} (h : WOkB k S B W) (hS : 1 ≤ S) {ns some' : List Nat} (hn : ∀ i ∈ ns, i < k) (hl : ∀ i ∈ some', i ≤ k) : tellW (markW W ns) some' = tellW W (unm k ns some') := by
  have e : runW (markW W ns) some' = runW W (unm k ns some') := mark_run h hn some' (some (0, W.begins)) hl ⟨hS, h.b1⟩
  unfold tellW
  rw [e]
  rfl

theorem Tp.w_inv {H : Hp} {v : V} {W : Wr} (h : Tp H v W.d) : ∃ (a : Addr) (vb vr ve : V), v = .ref a ∧ H a = some (.tup [vb, vr, ve]) ∧ Tp H vb (.tuple (W.begins.map .str)) ∧ Tp H vr (.tuple (W.rules.map rowD)) ∧ Tp H ve (.tuple (W.ends.map endD)) := by
  obtain ⟨a, xs, rfl, h1, h2⟩ := h.tup_inv
  cases h2 with
  | @cons vb x2 _ _ tb h2 =>
  cases h2 with
  | @cons vr x3 _ _ tr h3 =>
  cases h3 with
  | @cons ve x4 _ _ te h4 =>
  cases h4
  exact ⟨a, vb, vr, ve, rfl, h1, tb, tr, te⟩

theorem Tp.rc_inv {H : Hp} {v : V} {r : Rc} (h : Tp H v r.d) : ∃ a, v = .ref a ∧ H a = some (.tup (r.map Pt.v)) := by
  obtain ⟨a, xs, rfl, h1, h2⟩ := h.tup_inv
  rw [tpAll_parts h2] at h1
  exact ⟨a, rfl, h1⟩

/-! ### the program's entries along a word -/
structure PO (B : Nat) (r : Rc) : Prop where
  b : ∀ i ∈ bufs r, i < B
  len : r.length ≤ 10
  low : lowR r
  lt : lets r ≤ 1000
  ne : NE r
structure FL (B : Nat) (r : Rc) : Prop where
  b : ∀ i ∈ bufs r, i < B
  len : r.length ≤ 100
  low : lowR r
  lt : lets r ≤ 1000
  ne : NE r
structure WT (k S B : Nat) (W : Wr) : Prop where
  b1 : W.begins.length = B
  b3 : B ≤ 10
  r1 : W.rules.length = S
  r2 : ∀ row ∈ W.rules, row.length = k ∧ ∀ e ∈ row, ∀ t fs, e = some (t, fs) → t < S ∧ fs.length = B ∧ ∀ r ∈ fs, PO B r
def FE (S B : Nat) : Option (Nat × List Rc) → Prop
  | none => True
  | some (st, fl) => st < S ∧ fl.length = B ∧ ∀ r ∈ fl, FL B r
theorem ent_atT {k S B : Nat} {W : Wr} (h : WT k S B W) {st kd : Nat} (hs : st < S) (hk : kd < k) : ∃ row e, W.rules[st]? = some row ∧ row[kd]? = some e ∧ (W.rules.getD st []).getD kd none = e ∧ ∀ t fs, e = some (t, fs) → t < S ∧ fs.length = B ∧ ∀ r ∈ fs, PO B r := by
  have h1 : st < W.rules.length := by rw [h.r1]; exact hs
  obtain ⟨l, q⟩ := h.r2 _ (List.getElem_mem h1)
  have h2 : kd < (W.rules[st]).length := by rw [l]; exact hk
  refine ⟨W.rules[st], (W.rules[st])[kd], List.getElem?_eq_getElem h1, List.getElem?_eq_getElem h2, ?_, q _ (List.getElem_mem h2)⟩
  rw [List.getD_eq_getElem?_getD, List.getD_eq_getElem?_getD, List.getElem?_eq_getElem h1, Option.getD_some, List.getElem?_eq_getElem h2, Option.getD_some]
theorem getD_mem {fl : List Rc} {i : Nat} (h : i < fl.length) : fl.getD i [] ∈ fl := by
  rw [List.getD_eq_getElem?_getD, List.getElem?_eq_getElem h]
  exact List.getElem_mem h
theorem putR_ok {B : Nat} {r : Rc} {fl : List Rc} (h : PO B r) (hl : fl.length = B) (hf : ∀ y ∈ fl, FL B y) {q : Pt} (hq : q ∈ r) : (putR fl q).length ≤ 100 ∧ lets (putR fl q) ≤ 1000 ∧ lowR (putR fl q) ∧ NE (putR fl q) := by
  cases q with
  | s z =>
    refine ⟨by show 1 ≤ 100; decide, ?_, lowR_one (h.low _ hq), fun y hy => ?_⟩
    · show lets [Pt.s z] ≤ 1000
      rw [lets_one]
      exact Nat.le_trans (part_len hq) h.lt
    · obtain rfl : y = z := by
        have q := List.mem_singleton.mp hy
        injection q
      exact h.ne y hq
  | b i =>
    have hi : i < fl.length := by rw [hl]; exact h.b i (List.mem_flatMap.mpr ⟨_, hq, List.mem_singleton.mpr rfl⟩)
    have f := hf _ (getD_mem hi)
    exact ⟨f.len, f.lt, f.low, f.ne⟩
theorem lets_flat {M : Nat} : ∀ rs : List Rc, (∀ r ∈ rs, lets r ≤ M) → lets rs.flatten ≤ M * rs.length
  | [], _ => Nat.zero_le _
  | r :: rs, h => by
    have a := lets_flat rs fun y hy => h y (List.mem_cons_of_mem _ hy)
    have b := h r List.mem_cons_self
    rw [List.flatten_cons, lets_app, List.length_cons, Nat.mul_succ]
    omega
theorem put_jok {B : Nat} {r : Rc} {fl : List Rc} (h : PO B r) (hl : fl.length = B) (hf : ∀ y ∈ fl, FL B y) : JOk (r.map (putR fl)) := by
  have each : ∀ x ∈ r.map (putR fl), x.length ≤ 100 ∧ lets x ≤ 1000 ∧ lowR x ∧ NE x := fun x hx => by
    obtain ⟨q, hq, rfl⟩ := List.mem_map.mp hx
    exact putR_ok h hl hf hq
  refine ⟨by rw [List.length_map]; exact h.len, fun x hx => (each x hx).1, ?_, fun q hq => ?_, fun z hz => ?_⟩
  · have a := lets_flat (r.map (putR fl)) fun x hx => (each x hx).2.1
    rw [List.length_map] at a
    have := h.len
    omega
  · obtain ⟨x, hx, hq⟩ := List.mem_flatten.mp hq
    exact (each x hx).2.2.1 q hq
  · obtain ⟨x, hx, hz⟩ := List.mem_flatten.mp hz
    exact (each x hx).2.2.2 z hz
def spOwn : Sp := fun vs H Q _ => ∃ B : Nat, vs = [.int B] ∧ B ≤ 50 ∧ ∀ (v : V) H', Same H H' → Tp H' v (fillsD (ownF B)) → Q v H'
def spPut : Sp := fun vs H Q _ => ∃ (a t : V) (r : Rc) (fl : List Rc) (B : Nat), vs = [a, t] ∧ Tp H a r.d ∧ Tp H t (fillsD fl) ∧ PO B r ∧ fl.length = B ∧ (∀ y ∈ fl, FL B y) ∧ ∀ (v : V) H', Same H H' → Tp H' v (put fl r).d → Q v H'
def spEnt : Sp := fun vs H Q _ => ∃ (a t : V) (st : Nat) (W : Wr) (ns : List Nat) (k S B : Nat), vs = [a, .int st, t] ∧ Tp H a W.d ∧ Tp H t (wordD ns) ∧ WT k S B W ∧ st < S ∧ (∀ i ∈ ns, i < k) ∧ ns.length ≤ 1000 ∧ (∀ j, j ≤ ns.length → FE S B ((ns.take j).foldl (stepE W) (some (st, ownF W.begins.length)))) ∧
  ∀ (v : V) H', Same H H' → Tp H' v (entD (entW W st ns)) → Q v H'
theorem sc_own : FnScope ["buffers", "buffer"] ["buffers"] (fnScope st_own_fills_) := fnScope_by (by decide +kernel)
theorem sc_put : FnScope ["recipe", "fills", "recipes", "part"] ["recipe", "fills"] (fnScope st_put_in_) := fnScope_by (by decide +kernel)
def nEnt : List Str := ["writer", "start", "word", "state", "fills", "kind", "entry", "later", "recipe"]
theorem sc_ent : FnScope nEnt ["writer", "start", "word"] (fnScope st_entry_along_) := fnScope_by (by decide +kernel)
theorem pe_rS {X : Cx} {k j : Nat} {x : Str} {sp : Sp} {p q1 pos : Pos} {e : Expr} {te : TE} (c : CalR X.prog X.w X.K X.mg X.base k x sp) (hr : Room j X.A) (hk : k ≤ j) (hg : Gl X x) (he : PE X e te) (hd : (x == ("__debug__" : Str)) = false := by decide) (hst : starEach [.Starred e q1] X.env = [(true, eval e X.env)] := by rfl) :
    PE X (.Call (.Name x p) [.Starred e q1] [] pos) (fun σ H Q => te σ H fun y H1 => ∃ a xs, y = V.ref a ∧ (SqT X.K H1 a xs ∨ SqL X.K H1 a xs) ∧ sp xs H1 Q E0) := by
  obtain ⟨f, F, hm, kp⟩ := c.ex
  exact StX.pe_callS1 F (hr.mono hk) kp hg hm pass0 he hd hst
section
variable {P : Program} {w : World} {K : PySem.W.Frag} {mg : Str → Option Value} {base : Heap} {f : Addr} {fd : FuncData}
theorem cal_own (F : C8.Def K mg "own_fills" st_own_fills_ f fd) (b : Binds K fd ["buffers"] []) (B : BN2 mg) : Cal P w K mg base 1 "own_fills" spOwn [] := by
  refine cal0 F b .nil sc_own (fun vs H Q E h => ?_) (fun cdv A outer s H vs Q E hr h => ?_)
  · obtain ⟨n, rfl, _⟩ := h
    rfl
  · obtain ⟨n, rfl, hn, k⟩ := h
    refine ⟨_, pss_one (ps_ret (pe_callTy call_tuple_of (by rfl) B.tuple (by decide +kernel) (pa_cons (pe_lc (own := [("buffer", 1)]) (g := gName 1) (tt := tYes) (by rfl) sc_own.nd (pi_range1 rfl B.range (pa_cons (pv 0) pa_nil)) (blkOk_by (own := [("buffer", 1)]) (N := ["buffers", "buffer"]) (sc := fnScope st_own_fills_) (by decide +kernel))
      (fun _ _ _ _ _ => pg_name (i := 1) sc_own.nd rfl (Or.inl rfl)) (fun _ _ _ _ _ => pts_nil) (fun _ _ _ _ _ => pe_tup (pa_cons (pv 1) pa_nil))) pa_nil))), ?_⟩
    refine ⟨_, rfl, n, rfl, by omega, by omega, fun D hD => ?_⟩
    refine lc_range (lo := 0) (n := (n : Int).toNat) (fun i H' => Same H H' ∧ LAt H' D (((List.range i).map fun j => [Pt.b j]).map Rc.d)) ⟨same_new hD, [], upd_same, .nil⟩ ?_ ?_
    · rintro i H1 hi ⟨s1, us, hu, au⟩
      refine ⟨rfl, ?_⟩
      refine ⟨_, rfl, (by show 1 ≤ sizeLine; decide), fun q hq => ?_⟩
      have sq := same_new (o := .tup [V.int (0 + (i : Int))]) hq
      have hu2 := sq _ _ hu
      refine ⟨_, hu2, ?_, Same.put (Same.trans s1 sq) hD, ?_⟩
      · rw [au.len, List.length_map, List.length_map, List.length_range]
        exact Nat.lt_of_lt_of_le (show i < 100 by omega) (by decide)
      · rw [List.range_succ, List.map_append, List.map_append]
        refine LAt.push hu2 (au.mono (Same.tk sq)) (.tup upd_same (.cons ?_ .nil))
        rw [Int.zero_add]
        exact .int (i : Int)
    · rintro H1 ⟨s1, us, hu, au⟩
      refine ⟨D, us, rfl, .inl ⟨SqL.of hu, fun t ht => k _ _ (Same.trans s1 (same_new ht)) (.tup upd_same ?_)⟩⟩
      exact au.mono (tk_new ht)
theorem cal_put (F : C8.Def K mg "put_in" st_put_in_ f fd) (b : Binds K fd ["recipe", "fills"] []) (B : BN2 mg) (Cj : CalR P w K mg base 1 "joined" spJoined) : Cal P w K mg base 2 "put_in" spPut [] := by
  refine cal0 F b .nil sc_put (fun vs H Q E h => ?_) (fun cdv A outer s H vs Q E hr h => ?_)
  · obtain ⟨a, t, r, fl, n, rfl, _⟩ := h
    rfl
  · obtain ⟨a, t, r, fl, n, rfl, ha, ht, hr', hl, hf, k⟩ := h
    obtain ⟨a, rfl, ha1⟩ := ha.rc_inv
    obtain ⟨t, ys, rfl, ht1, ht2⟩ := ht.tup_inv
    refine ⟨_, pss_cons (ps_setLc (i := 2) (own := [("part", 3)]) (g := gName 3) (tt := tYes) (by rfl) sc_put.nd rfl rfl (sw_true rfl rfl rfl (by decide +kernel)) (pi_tup (pv 0)) (blkOk_by (own := [("part", 3)]) (N := ["recipe", "fills", "recipes", "part"]) (sc := fnScope st_put_in_) (by decide +kernel))
        (fun _ _ _ _ _ => pg_name (i := 3) sc_put.nd rfl (Or.inl rfl)) (fun _ _ _ _ _ => pts_nil)
        (fun _ _ _ _ _ => pe_ifExp (pt_val (pe_callB (isiK K) (by rfl) B.isi (by decide +kernel) (pa_cons (pv 3) (pa_cons (pe_bltn (v := .ty "str") (by rfl) B.str (by decide +kernel) rfl) pa_nil)))) (pe_tup (pa_cons (pv 3) pa_nil)) (pe_ix (ix_tupK K) (pv 1) (pv 3) (fun _ _ => rfl))))
      (pss_one (ps_ret (pe_rS Cj hr (by decide) (by rfl) (pv 2)))), ?_⟩
    refine ⟨_, rfl, a, rfl, ⟨_, SqT.of ha1⟩, fun D hD => ?_⟩
    refine lc_tup (K := K) (a := a) (xs := r.map Pt.v) (fun i H' => Same H H' ∧ LAt H' D (((r.take i).map (putR fl)).map Rc.d)) ⟨same_new hD, [], upd_same, .nil⟩ (fun i H' _ h => SqT.of (h.1 _ _ ha1)) ?_ ?_
    · rintro i x H1 hi ⟨s1, us, hu, au⟩
      obtain ⟨q, hq, rfl⟩ : ∃ q, r[i]? = some q ∧ x = Pt.v q := by
        rw [List.getElem?_map] at hi
        cases e : r[i]? with
        | none =>
          rw [e] at hi
          cases hi
        | some y =>
          rw [e] at hi
          exact ⟨y, rfl, (Option.some.inj hi).symm⟩
      have small : us.length < sizeLine := by
        rw [au.len, List.length_map, List.length_map, List.length_take]
        exact Nat.lt_of_le_of_lt (Nat.le_trans (Nat.min_le_right _ _) hr'.len) (by decide)
      have done : ∀ (x' : V) (H2 : Hp), Same H1 H2 → Tp H2 x' (putR fl q).d → ∃ acc, H2 D = some (.lst acc) ∧ acc.length < sizeLine ∧ Same H (upd H2 D (.lst (acc ++ [x']))) ∧ LAt (upd H2 D (.lst (acc ++ [x']))) D (((r.take (i + 1)).map (putR fl)).map Rc.d) := fun x' H2 s2 tx => by
        refine ⟨us, s2 _ _ hu, small, Same.put (Same.trans s1 s2) hD, ?_⟩
        rw [List.take_add_one, hq, List.map_append, List.map_append]
        exact LAt.push (s2 _ _ hu) (au.mono (Same.tk s2)) tx
      refine ⟨rfl, ?_⟩
      obtain ⟨ty, tb, t1, t2, t3, t4⟩ := isi_pt (K := K) (H := H1) q
      refine ⟨_, rfl, q.v, _, ty, _, tb, rfl, .ty _, t1, t2, _, rfl, ?_⟩
      cases tb with
      | true =>
        obtain ⟨z, rfl⟩ := t3 rfl
        exact iteT ⟨_, rfl, (by show 1 ≤ sizeLine; decide), fun p hp => done _ _ (same_new hp) (.tup upd_same (.cons (.str z) .nil))⟩
      | false =>
        obtain ⟨j, rfl⟩ := t4 rfl
        have hj : j < fl.length := by rw [hl]; exact hr'.b j (List.mem_flatMap.mpr ⟨_, List.mem_of_getElem? hq, List.mem_singleton.mpr rfl⟩)
        obtain ⟨y, y1, y2⟩ := ht2.at (List.getElem?_eq_getElem hj)
        have e : fl[j] = putR fl (.b j) := by
          show _ = fl.getD j []
          rw [List.getD_eq_getElem?_getD, List.getElem?_eq_getElem hj]
          rfl
        rw [e] at y2
        exact iteF ⟨_, rfl, _, rfl, t, _, (j : Int), y, rfl, rfl, SqT.of (s1 _ _ ht1), atI_nat y1, done _ _ (Same.refl _) (y2.mono (Same.tk s1))⟩
    · rintro H1 ⟨s1, us, hu, au⟩
      rw [List.length_map, List.take_length] at au
      exact ⟨_, rfl, D, us, rfl, .inr (SqL.of hu), r.map (putR fl), au, put_jok hr' hl hf, fun t' H2 s2 ht' => k _ _ (Same.trans s1 s2) (tp_rc ht')⟩
theorem cal_ent (F : C8.Def K mg "entry_along" st_entry_along_ f fd) (b : Binds K fd ["writer", "start", "word"] []) (B : BN2 mg) (Co : Cal P w K mg base 1 "own_fills" spOwn []) (Cp : Cal P w K mg base 2 "put_in" spPut []) : Cal P w K mg base 3 "entry_along" spEnt [] := by
  refine cal0 F b .nil sc_ent (fun vs H Q E h => ?_) (fun cdv A outer s H vs Q E hr h => ?_)
  · obtain ⟨a, t, st, W, ns, kk, S, Bf, rfl, _⟩ := h
    rfl
  · obtain ⟨a, t, st0, W, ns, kk, S, Bf, rfl, ha, ht, hW, hS, hn, hl, hfit, k⟩ := h
    obtain ⟨a, vb, vr, ve, rfl, w1, tb, tr, te⟩ := ha.w_inv
    obtain ⟨ba, bx, rfl, tb1, tb2⟩ := tb.tup_inv
    obtain ⟨ra, rx, rfl, tr1, tr2⟩ := tr.tup_inv
    obtain ⟨t, rfl, ht1⟩ := ht.word_inv
    have lb : bx.length = W.begins.length := by rw [tb2.len, List.length_map]
    refine ⟨_, pss_cons (ps_set (i := 3) sc_ent.nd rfl (Or.inl rfl) (pv 1))
      (pss_cons (ps_set (i := 4) sc_ent.nd rfl (Or.inr rfl) (pe_c Co hr (by decide) (by rfl) (pa_cons (pe_callB call_len_seq (by rfl) B.len PySem.boot_len (pa_cons (pe_ix ix_tup (pv 0) pe_int (fun _ _ => rfl)) pa_nil)) pa_nil)))
      (pss_cons (ps_for PassesOwn.never rfl (pi_tup (pv 2)) (pg_name (i := 5) sc_ent.nd rfl (Or.inl rfl))
        (pss_cons (ps_set (i := 6) sc_ent.nd rfl (Or.inl rfl) (pe_ix ix_tup (pe_ix ix_tup (pe_ix ix_tup (pv 0) pe_int (fun _ _ => rfl)) (pv 3) (fun _ _ => rfl)) (pv 5) (fun _ _ => rfl)))
        (pss_cons (ps_if (pt_cmp (pc_isN (pv 6))) (pss_one (ps_ret pe_non)) pss_nil)
        (pss_cons (ps_asg (pv 6) (pg_tup rfl (pgs_cons (pg_name (i := 3) sc_ent.nd rfl (Or.inl rfl)) (pgs_cons (pg_name (i := 7) sc_ent.nd rfl (Or.inl rfl)) pgs_nil))))
        (pss_one (ps_set (i := 4) sc_ent.nd rfl (Or.inr rfl) (pe_callTy call_tuple_of (by rfl) B.tuple (by decide +kernel) (pa_cons (pe_lc (own := [("recipe", 8)]) (g := gName 8) (tt := tYes) (by rfl) sc_ent.nd (pi_tup (pv 7)) (blkOk_by (own := [("recipe", 8)]) (N := nEnt) (sc := fnScope st_entry_along_) (by decide +kernel))
          (fun _ _ _ _ _ => pg_name (i := 8) sc_ent.nd rfl (Or.inl rfl)) (fun _ _ _ _ _ => pts_nil) (fun _ _ _ _ _ => pe_c Cp hr (by decide) (by rfl) (pa_cons (pv 8) (pa_cons (pv 4) pa_nil)))) pa_nil))))))))
      (pss_one (ps_ret (pe_tup (pa_cons (pv 3) (pa_cons (pv 4) pa_nil))))))), ?_⟩
    refine ⟨_, rfl, ?_⟩
    refine ⟨_, rfl, a, _, _, _, rfl, rfl, SqT.of w1, atI_nat (j := 0) rfl, ba, _, rfl, .inr (SqT.of tb1), W.begins.length, (by rw [lb]; rfl), (by have := hW.b1; have := hW.b3; omega), fun fv0 H1 s1 tf0 => ?_⟩
    refine ⟨_, rfl, t, rfl, ⟨_, SqT.of (s1 _ _ ht1)⟩, for_tup (K := K) (a := t) (xs := (iN ns).map V.int) (fun i σ H' => Same H H' ∧ ∃ (st : Nat) (fl : List Rc) (fv : V) (v5 v6 v7 : Option V), σ = [some (.ref a), some (.int st0), some (.ref t), some (.int st), some fv, v5, v6, v7, none] ∧
      (ns.take i).foldl (stepE W) (some (st0, ownF W.begins.length)) = some (st, fl) ∧ Tp H' fv (fillsD fl)) ⟨s1, st0, _, fv0, _, _, _, rfl, rfl, tf0⟩ (fun i σ H' _ h => SqT.of (h.1 _ _ ht1)) ?_ ?_⟩
    · rintro i x σ H2 hi ⟨s2, st, fl, fv, v5, v6, v7, rfl, eE, tfv⟩
      obtain ⟨kd, hkd, rfl⟩ : ∃ kd, ns[i]? = some kd ∧ x = V.int (kd : Nat) := by
        unfold iN at hi
        rw [List.map_map, List.getElem?_map] at hi
        cases e : ns[i]? with
        | none =>
          rw [e] at hi
          cases hi
        | some y =>
          rw [e] at hi
          exact ⟨y, rfl, (Option.some.inj hi).symm⟩
      have ilt : i < ns.length := (List.getElem?_eq_some_iff.mp hkd).1
      have f0 := hfit i (Nat.le_of_lt ilt)
      rw [eE] at f0
      obtain ⟨stS, flB, flO⟩ := f0
      obtain ⟨row, en, g1, g2, g3, g4⟩ := ent_atT hW stS (hn kd (List.mem_of_getElem? hkd))
      obtain ⟨rv, y1, y2⟩ := tr2.at g1
      obtain ⟨rwa, rws, rfl, y3, y4⟩ := y2.tup_inv
      obtain ⟨ev, y5, y6⟩ := y4.at g2
      have more : (ns.take (i + 1)).foldl (stepE W) (some (st0, ownF W.begins.length)) = stepE W (some (st, fl)) kd := by rw [foldl_more (stepE W) _ hkd, eE]
      have step : stepE W (some (st, fl)) kd = stepT fl en := congrArg (stepT fl) g3
      refine ⟨_, rfl, a, _, _, _, rfl, rfl, SqT.of (s2 _ _ w1), atI_nat (j := 1) rfl, _, rfl, ra, rx, _, _, rfl, rfl, SqT.of (s2 _ _ tr1), atI_nat y1, _, rfl, rwa, rws, _, _, rfl, rfl, SqT.of (s2 _ _ y3), atI_nat y5, ?_⟩
      refine ⟨_, rfl, _, rfl, ?_⟩
      cases en with
      | none =>
        obtain rfl := y6.non_inv
        refine iteT' (decide_eq_true rfl) (k _ _ s2 ?_)
        have e : entW W st0 ns = none := by
          have z : ns = ns.take (i + 1) ++ ns.drop (i + 1) := (List.take_append_drop _ _).symm
          unfold entW
          rw [z, List.foldl_append, more, step]
          exact fold_noneE W _
        rw [e]
        exact .non
      | some y =>
        obtain ⟨tg, fs⟩ := y
        obtain ⟨ea, es, rfl, y7, y8⟩ := y6.tup_inv
        cases y8 with
        | @cons vtg x9 _ _ z1 z2 =>
        cases z2 with
        | @cons vfs x10 _ _ z3 z4 =>
        cases z4
        obtain rfl := z1.int_inv
        obtain ⟨fa, fx, rfl, f1, f2⟩ := z3.tup_inv
        obtain ⟨g5, g6, g7⟩ := g4 tg fs rfl
        refine iteF' (decide_eq_false (fun z => by cases z)) ?_
        refine ⟨_, rfl, ea, _, rfl, SqT.of (s2 _ _ y7), rfl, _, _, rfl, _, _, rfl, rfl, ?_⟩
        refine ⟨_, rfl, fa, rfl, ⟨_, SqT.of (s2 _ _ f1)⟩, fun D hD => ?_⟩
        have lenx : fx.length = fs.length := by rw [f2.len, List.length_map]
        refine lc_tup (K := K) (a := fa) (xs := fx) (fun j H' => Same H2 H' ∧ LAt H' D (((fs.take j).map (put fl)).map Rc.d)) ⟨same_new hD, [], upd_same, .nil⟩ (fun j H' _ h => SqT.of (h.1 _ _ (s2 _ _ f1))) ?_ ?_
        · rintro j x H3 hj ⟨s3, us, hu, au⟩
          have jlt : j < fs.length := by
            have := (List.getElem?_eq_some_iff.mp hj).1
            omega
          obtain ⟨v, hv, tv⟩ := f2.at (List.getElem?_eq_getElem jlt)
          rw [hj] at hv
          cases hv
          have s23 := Same.trans s2 s3
          refine ⟨rfl, _, rfl, _, rfl, x, fv, fs[j], fl, Bf, rfl, tv.mono (Same.tk s23), tfv.mono (Same.tk s3), g7 _ (List.getElem_mem jlt), flB, flO, fun v8 H4 s4 tv8 => ?_⟩
          refine ⟨us, s4 _ _ hu, ?_, Same.put (Same.trans s3 s4) hD, ?_⟩
          · rw [au.len, List.length_map, List.length_map, List.length_take]
            have := hW.b3
            exact Nat.lt_of_le_of_lt (Nat.le_trans (Nat.min_le_right _ _) (show fs.length ≤ 10 by omega)) (by decide)
          · rw [take_map_more (List.getElem?_eq_getElem jlt), List.map_append]
            exact LAt.push (s4 _ _ hu) (au.mono (Same.tk s4)) tv8
        · rintro H3 ⟨s3, us, hu, au⟩
          rw [lenx, List.take_length] at au
          refine ⟨D, us, rfl, .inl ⟨SqL.of hu, fun u hu' => ?_⟩⟩
          refine ⟨Same.trans s2 (Same.trans s3 (same_new hu')), tg, fs.map (put fl), .ref u, _, _, _, rfl, (by rw [more, step]; rfl), .tup upd_same (au.mono (tk_new hu'))⟩
    · rintro σ H2 ⟨s2, st, fl, fv, v5, v6, v7, rfl, eE, tfv⟩
      have lw : ((iN ns).map V.int).length = ns.length := by
        unfold iN
        rw [List.length_map, List.length_map]
      rw [lw, List.take_length] at eE
      refine ⟨_, rfl, _, rfl, (by show 2 ≤ sizeLine; decide), fun q hq => k _ _ (Same.trans s2 (same_new hq)) ?_⟩
      have e : entW W st0 ns = some (st, fl) := eE
      rw [e]
      exact .tup upd_same (.cons (.int (st : Int)) (.cons (tfv.mono (tk_new hq)) .nil))
end

/-! ### errors of the program's own over any built-in error, made by their own __init__ -/
section
open PySem.Spec PyProof.Rows PySem.W Builtin Builtin.ObjectAttr
/-- what the top has written of such a class -/
structure ExC (K : PySem.W.Frag) (C : Addr) (bmB : List Value) (newId : String) : Prop where
  io : excInitIn K C bmB newId = true
  ov : excOver K C bmB = true
  sa : findIn K (.ref C) "__setattr__" = some (some (.builtin "object.__setattr__"))
  hd : hasDictIn K C = true
  ex : subIn K (.ref C) (.type "BaseException") = some true
  ty : typeIn K (.ref C) = some (.type "type")
  kp : keepIn K (.ref C) = true
theorem xs_osa {prog : Program} {w : World} {A : Around} {R : Result → Shared → Prop} {hp : Heap} {gs : Array GenState} {dr : Drawn} {tn : Nat} {os : OsState} {K : PySem.W.Frag} {nm : Str} {tk : Tok} {v : Value} {x C : Addr} {fv : Array Value} {bmB : List Value} {B : String}
    (SF : StoreFacts B bmB "object.__setattr__" "object") (X : K.In hp) (hx : hp.get? x = some { cls := .ref C, data := .fields fv }) (ov : excOver K C bmB = true) (ht : takerIn K C nm = some none) (hd : hasDictIn K C = true)
    (fin : ∀ h' tk' dx, (∀ c o, c ≠ x → hp.get? c = some o → h'.get? c = some o) → hp.objs.size ≤ dx → dx ≠ x → h'.get? x = some { cls := .ref C, dict := some dx, data := .fields fv } →
      h'.Ns1 dx (fun y => if y = nm then some v else none) → R (.ok (.ret .none)) ⟨h', gs, dr, tk', os⟩) :
    codeAny (model prog w) A (.call (.builtin "object.__setattr__") ⟨[.ref x, .str nm tk, v], []⟩) R ⟨hp, gs, dr, tn, os⟩ := by
  refine osa_openX (od := none) SF X ⟨hx, rfl, rfl, trivial⟩ ov ht fun bb => ?_
  obtain ⟨cd, hcd, hdct⟩ : ∃ cd, clsIn K C = some cd ∧ cd.hasDict = true := any_some hd
  have lk : Looks (model prog w) hp (classData C) cd := looks_clsIn X hcd
  have off : x ≠ hp.objs.size := Nat.ne_of_lt (Heap.lt_size hx)
  show wpAny _ _ (storeInOwnDict (.ref x) (.ref C) (.str nm tk) nm v bb) _ _ _
  obtain ⟨nm', bs, mro, ns, qn, hd', sn, sb, ab, col, dl⟩ := cd
  dsimp only at hdct
  subst hdct
  unfold storeInOwnDict ownDictForStores
  repeat (first | with_reducible refine HandSPX.store_in_new ?_ ?_ | with_reducible refine wpAny_loadPart_at hx ?_ | with_reducible refine lk.at ?_ | wp_step)
  · exact ⟨_, #[], _, (Heap.get?_update_ne _ _ _ _ off.symm).trans (Heap.get?_push_at rfl rfl), rfl, (fun e he => absurd he (by simp)), fun _ => rfl⟩
  · intro h' tk' n1 same
    have x1 : (hp.push { cls := .type "dict", data := .dict #[] }).get? x = some { cls := .ref C, data := .fields fv } := Heap.get?_push_of_some _ hx
    refine fin h' tk' hp.objs.size (fun c o hc ho => ?_) (Nat.le_refl _) off.symm ((same.2 x off).trans (Heap.get?_update_self _ x1 rfl)) n1
    exact (same.2 c (Nat.ne_of_lt (Heap.lt_size ho))).trans ((Heap.get?_update_ne _ _ _ _ hc).trans (Heap.get?_push_of_some _ ho))
section
variable {X : Cx} {pins : List (Addr × Obj)} {σ : L2.St} {H : Hp} {s : Shared} {a C : Addr} {f : Str} {y : V} {u : Value} {E : Value → Shared → Prop} {A : Around} {B newId initId : String} {bmB : List Value}
/-- self.f = y -/
theorem xs_put {Q : Unit → Shared → Prop} (SF : StoreFacts B bmB "object.__setattr__" "object") (T : ExC X.K C bmB newId) (I : Inv X pins σ H s) (e : H a = some (exo a C none)) (ht : takerIn X.K C f = some none) (ry : RelV y u)
    (go : ∀ dx s', H dx = none → dx ≠ a → Inv X pins σ (upd (upd H dx (exd dx [(f, y)])) a (exo a C (some dx))) s' → Q () s') : wpAny (model X.prog X.w) A (setAttr (.ref a) f u) Q E s := by
  obtain ⟨t1, there⟩ := exo_at I.hok e
  obtain ⟨hp, gs, dr, tn, os⟩ := s
  refine set_plain I.kIn (ox := { cls := .ref C, dict := none, data := .fields #[.ref t1, .none, .none, .none, .bool false, .none] }) (od := none) ⟨there, rfl, rfl, trivial⟩ T.sa ?_
  refine xs_osa SF I.kIn there T.ov ht T.hd fun h' tk' dx kept big dxa hx' n1 => ?_
  have free : H dx = none := I.hok.fresh big
  have off : ∀ {c : Addr} {o : Obj}, hp.get? c = some o → c ≠ dx := fun q => Nat.ne_of_lt (Nat.lt_of_lt_of_le (Heap.lt_size q) big)
  have offA : ∀ {c : Addr}, H c = none → c ≠ a := fun n z => by rw [z, e] at n; cases n
  have UN : Un X.fs [] H (upd (upd H dx (exd dx [(f, y)])) a (exo a C (some dx))) hp h' := {
    keep := fun c o q n _ _ => kept c o (offA n) q
    slot := fun c o q n _ _ => ⟨o.slots, kept c o (offA n) q⟩
    free := fun c o q n _ => (upd_ne (offA n)).trans ((upd_ne (off q)).trans n)
    there := fun c o q _ => by
      by_cases z : c = a
      · subst z
        exact ⟨_, hx'⟩
      · exact ⟨o, kept c o z q⟩
    tups := fun c xs q => (upd_ne (at_ne e q exo_tup)).trans ((upd_ne (ne_of_none q free)).trans q)
    frzs := fun c o v q => (upd_ne (at_ne e q exo_frz)).trans ((upd_ne (ne_of_none q free)).trans q)
    tbls := fun c ps q => ⟨#[], by rw [upd_ne (at_ne e q exo_tbl), upd_ne (ne_of_none q free), q]; simp⟩ }
  refine go dx _ free dxa (I.un (t' := tk') UN fun c o q => ?_)
  by_cases za : c = a
  · rw [za] at q ⊢
    rw [upd_same] at q
    cases q
    exact exo_ok hx'
  rw [upd_ne za] at q
  by_cases zd : c = dx
  · rw [zd] at q ⊢
    rw [upd_same] at q
    cases q
    exact exd_ok n1 (relO_put (fs := []) ry fun _ => True.intro)
  rw [upd_ne zd] at q
  refine (I.hok c o q).stay (fun d v hd z => kept d v ?_ z) (fun d hd => (upd_ne (at_ne e hd exo_own)).trans ((upd_ne (ne_of_none hd free)).trans hd)) fun d xs hd => (upd_ne (at_ne e hd exo_tup)).trans ((upd_ne (ne_of_none hd free)).trans hd)
  rcases hd with hd | hd
  · rw [hd]; exact za
  · exact at_ne e hd exo_own
/-- Base.__init__(self, ..): nothing of it is told -/
theorem xs_base {us : List Value} {Q : Value → Shared → Prop} (FB : ExcBaseFacts B newId initId bmB) (T : ExC X.K C bmB newId) (I : Inv X pins σ H s) (e : H a = some (exo a C none)) (hl : us.length ≤ sizeLine) (go : ∀ s', Inv X pins σ H s' → Q .none s') :
    wpAny (model X.prog X.w) A (call (.builtin initId) (.ref a :: us)) Q E s := by
  obtain ⟨n1, n2, n3, n4, n5, n6, n7, n8, n9, n10, n11, k0, k1, k2, k3, k5, hC, tl⟩ := excInit_of I.kIn T.io
  obtain ⟨t1, there⟩ := exo_at I.hok e
  obtain ⟨hp, gs, dr, tn, os⟩ := s
  refine wpAny_call (HandSPX.init_base FB tl hC there hl fun h' t2 kept hx' => ?_)
  have same : upd H a (exo a C none) = H := funext fun c => by
    by_cases z : c = a
    · rw [z, upd_same, e]
    · rw [upd_ne z]
  have J := I.write (t' := tn) (x := a) (e := a) (o := exo a C none) (by rw [e]; exact True.intro) (.inl rfl) kept ⟨_, hx'⟩ (exo_ok hx')
  rw [same] at J
  exact go _ J
end
end

/-! ### the rules: self.f = e, Base.__init__(self, ..), C(e, ..); defs that raise -/
/-- self.f = e, the error's first field -/
def tXput (K : PySem.W.Frag) (f : Str) (bmB : List Value) (newId : String) (to te : TE) : TS := fun D σ H => te σ H fun y H1 => to σ H1 fun x H2 => ∃ a C : Addr, x = .ref a ∧ ExC K C bmB newId ∧ PySem.W.takerIn K C f = some none ∧ H2 a = some (exo a C none) ∧
  ∀ dx, H2 dx = none → dx ≠ a → D.nx σ (upd (upd H2 dx (exd dx [(f, y)])) a (exo a C (some dx)))
def tXbase (K : PySem.W.Frag) (bmB : List Value) (newId : String) (ta : TA) : TE := fun σ H Q => ta σ H fun vs H1 => ∃ (a C : Addr) (ws : List V), vs = .ref a :: ws ∧ ws.length ≤ 1000 ∧ ExC K C bmB newId ∧ H1 a = some (exo a C none) ∧ Q .non H1
/-- C(e, ..): its __init__ keeps sp -/
def tXmk (C : Addr) (sp : Sp) (ta : TA) : L2.St → Hp → XK → Prop := fun σ H Q => ta σ H fun vs H1 => vs.length ≤ 1000 ∧ ∀ a, H1 a = none → sp (.ref a :: vs) (upd H1 a (exo a C none))
  (fun v H2 => v = .non ∧ ∃ (d : Addr) (fs : List (Str × V)), H2 a = some (exo a C (some d)) ∧ H2 d = some (exd d fs) ∧ H1 d = none ∧ Q (.ref C) (some d) (upd (del H2 a) d (.xd fs))) (fun _ _ _ => False)
section
open PySem.Spec PyProof.Rows
variable {X : Cx} {o e : Expr} {es : List Expr} {to te : TE} {ta : TA} {f : Str} {p q1 q2 q3 pos : Pos} {B newId initId : String} {bmB : List Value}
theorem ps_xput (SF : StoreFacts B bmB "object.__setattr__" "object") (ho : PE X o to) (he : PE X e te) (hs : swapsWith e (some (.Attribute o f q1)) pos.line X.env = pure false := by rfl) : PS X (.Assign [.Attribute o f q1] e pos) (tXput X.K f bmB newId to te) :=
  ⟨fun pins s σ H D I h => plainObj_wpAny_Assign_Attribute (thn (he.run pins s σ H _ I h) fun v s1 ⟨y, H1, I1, r1, z1⟩ => thn (ho.run pins s1 σ H1 _ I1 z1) fun u s2 ⟨x, H2, I2, r2, a, C, ex, T, ht, ea, go⟩ => by
    subst ex
    obtain rfl : u = Value.ref a := r2
    exact xs_put SF T I2 ea ht r1 fun dx s' n ne J => ⟨σ, _, J, go dx n ne⟩) hs⟩
theorem ty_OverflowError : typeOf (.type "OverflowError") = pure (.type "type") := by kernel_rfl
theorem pe_xbase {pl : Sem Bool} (FB : ExcBaseFacts "OverflowError" newId "OverflowError.__init__" bmB) (hg : Gl X "OverflowError") (hm : X.mg "OverflowError" = none) (vV : PySem.W.findCls X.K (.type "OverflowError") (.type "type") "__init__" = some (.val (.builtin "OverflowError.__init__"))) (ha : PA X (e :: es) ta)
    (hc : eval (.Call (.Attribute (.Name "OverflowError" q1) "__init__" q2) (e :: es) [] pos) X.env = (do
      let ov ← eval (.Name "OverflowError" q1) X.env
      standAt q2.atName
      let (f, first) ← holding [ov] (getMethod ov "__init__" pl)
      callWith pos f first (backTo pos (starEach (e :: es) X.env)) (backToKw pos (keywordEach [] X.env))) := by rfl)
    (he : starEach (e :: es) X.env = (false, eval e X.env) :: starEach es X.env := by rfl) (hpl : (backTo pos (starEach es X.env)).any (·.1) = false := by rfl) : PE X (.Call (.Attribute (.Name "OverflowError" q1) "__init__" q2) (e :: es) [] pos) (tXbase X.K bmB newId ta) := by
  refine ⟨fun pins s σ H Q I h => PySem.W.methodCall_KW (ld_blt I hg hm PyProof.Rows.Boot.«OverflowError» ?_ (by decide) (by decide)) hc⟩
  obtain ⟨m, fr⟩ := I.fr
  refine PySem.W.method_type fr I.ok.mod.kin ty_OverflowError (by decide +kernel) vV (by decide +kernel) ?_
  show wpAny _ _ (callWith pos (Value.builtin "OverflowError.__init__") [] (backTo pos (starEach (e :: es) X.env)) []) _ _ _
  refine callWith_method1 (thn (ha.run pos pins _ σ H _ (I.tok _) h) fun us s1 hh => ?_) he hpl
  obtain ⟨vs, H1, I1, r1, a, C, ws, ev, hl, T, ea, z⟩ := hh
  subst ev
  cases r1 with
  | @cons _ u0 _ ur ra rw' =>
    obtain rfl : u0 = Value.ref a := ra
    exact xs_base FB T I1 ea (by rw [← Paired.length rw', sizeLine_eq]; omega) fun s' J => ⟨.non, H1, J, rfl, z⟩
theorem pmk_x {CX : CXT} {x : Str} {C fI : Addr} {k : Nat} {fd : FuncData} {ps : List Str} {sp : Sp} (FB : ExcBaseFacts B newId initId bmB) (T : ExC X.K C bmB newId) (iC : PySem.W.findIn X.K (.ref C) "__init__" = some (some (.ref fI))) (tI : PySem.W.typeIn X.K (.ref fI) = some (.type "function"))
    (F1 : FnOk X.prog X.w X.K X.mg X.base CX k fI fd ps sp) (hr : Room (k + 1) X.A) (hb : Binds X.K fd ps []) (hx : Passes CX X (fun _ _ _ => False)) (hg : Gl X x) (hm : X.mg x = some (.ref C)) (ha : PA X (e :: es) ta)
    (hdb : (x == ("__debug__" : Str)) = false := by decide) (he : starEach (e :: es) X.env = (false, eval e X.env) :: starEach es X.env := by rfl) (hpl : (backTo pos (starEach es X.env)).any (·.1) = false := by rfl) : PMk X (.Call (.Name x p) (e :: es) [] pos) (tXmk C sp ta) := fun pins s σ H Q I h => by
  refine wpAny_Call_Name_kw (ld_glob I hg hm ?_ hdb)
  refine PySem.W.callWith_K (h₀ := X.base) I.ok.mod.kin T.kp (thn (ha.run pos pins s σ H _ I h) fun us s1 hh => ?_) he hpl
  obtain ⟨vs, H1, I1, r1, hz, go⟩ := hh
  refine ⟨I1.kIn, ?_⟩
  show wpAny _ _ (call (.ref C) us) _ _ _
  obtain ⟨n1, n2, n3, n4, n5, n6, n7, n8, n9, n10, n11, k0, k1, k2, k3, k5, hC, tl⟩ := PySem.W.excInit_of I1.kIn T.io
  obtain ⟨hp, gs, dr, tn, os⟩ := s1
  have up : hp.objs.size ≤ hp.objs.size + 1 := Nat.le_succ _
  have goes := go (hp.objs.size + 1) (I1.hok.fresh up)
  have kept : ∀ c o, hp.get? c = some o → ((hp.push (PySem.W.kdv_tup us)).push (HandSPX.excO C hp.objs.size)).get? c = some o := fun c o z => Heap.get?_push_of_some _ (Heap.get?_push_of_some _ z)
  have made : ((hp.push (PySem.W.kdv_tup us)).push (HandSPX.excO C hp.objs.size)).get? (hp.objs.size + 1) = some (HandSPX.excO C hp.objs.size) := by heap_get
  have J : Inv X pins σ (upd H1 (hp.objs.size + 1) (exo (hp.objs.size + 1) C none)) ⟨(hp.push (PySem.W.kdv_tup us)).push (HandSPX.excO C hp.objs.size), gs, dr, tn, os⟩ := I1.laid (t' := tn) kept up (exo_ok made)
  have rel : Vals (V.ref (hp.objs.size + 1) :: vs) (Value.ref (hp.objs.size + 1) :: us) := .cons rfl r1
  have many : (Value.ref (hp.objs.size + 1) :: us).length = ps.length := rel.length.symm.trans (F1.len _ _ _ _ goes)
  have room : us.length ≤ sizeLine := by rw [← Paired.length r1, sizeLine_eq]; omega
  have bnd : BindsTo (⟨(hp.push (PySem.W.kdv_tup us)).push (HandSPX.excO C hp.objs.size), gs, dr, tn, os⟩ : Shared) fd ⟨Value.ref (hp.objs.size + 1) :: us, []⟩ (ps.zip (Value.ref (hp.objs.size + 1) :: us)) := by
    have z := hb _ (Value.ref (hp.objs.size + 1) :: us) J.kIn (by rw [List.append_nil]; exact many)
    rw [List.append_nil] at z
    exact z
  refine wpAny_call (HandSPX.call_own FB tl hC (PySem.W.looks_findIn I1.kIn iC) (fun self => PySem.W.bind_fn I1.kIn self tI) room (codeAny_mono (F1.run _ X.stack _ _ ⟨Value.ref (hp.objs.size + 1) :: us, []⟩ (Value.ref (hp.objs.size + 1) :: us) _ _ (fun _ _ _ => False) (hr.make C us []) (J.env0.make C us []) bnd rel goes) fun r s' back => ?_))
  rcases r with er | fl
  · exact hx pins σ _ _ er s' J back
  cases fl with
  | next => exact back.elim
  | brk => exact back.elim
  | cont => exact back.elim
  | ret u =>
    obtain ⟨v, H2, os2, bare2, un2, hok2, rv, ev, d, fs, ea, ed, hd1, z⟩ := back
    subst ev
    obtain ⟨h2, g2, d2, t2, os'⟩ := s'
    exact ⟨rv, L2.mk_end (raises_own T.ex T.ty) I1 up kept un2 hok2 os2 bare2 ea ed hd1 z⟩
end

/-! ### LimitExceeded: made, raised, caught; defs that may raise -/
structure CalX (P : Program) (w : World) (K : PySem.W.Frag) (mg : Str → Option Value) (base : Heap) (k : Nat) (x : Str) (sp : Sp) : Prop where
  ex : ∃ (f : Addr) (fd : FuncData) (ps : List Str), FnOk P w K mg base (L2.CX P w) k f fd ps sp ∧ mg x = some (.ref f) ∧ PySem.W.keepIn K (.ref f) = true ∧ Binds K fd ps []
section
open PySem.Spec PyProof.Rows
theorem fnX {P : Program} {w : World} {K : PySem.W.Frag} {mg : Str → Option Value} {base : Heap} {x qual : Str} {st : Stmt} {f : Addr} {fd : FuncData} {N ps : List Str} {k : Nat} {sp : Sp} (F : C8.Fun K x qual st f fd) (S : FnScope N ps (fnScope st)) (many : ∀ vs H Q E, sp vs H Q E → vs.length = ps.length)
    (body : ∀ (cdv : Value) (A : Around) (outer : List Env) (s : Shared) (H : Hp) (vs : List V) (Q : VK) (E : XK), Room k (A.deeper (envOfC qual (fnScope st) s.heap.objs.size f cdv)) → sp vs H Q E →
      ∃ t, PSs (cxOf (L2.CX P w) P w K mg base N qual (fnScope st) f cdv A outer s H E) (fnBody st) t ∧ t { nx := fun _ H' => Q .non H', rt := Q } (start N vs) H) : FnOk P w K mg base (L2.CX P w) (k + 1) f fd ps sp := by
  obtain ⟨oc, od, dV, kV, doc, pm, an, cdv, ct, osl, rfl, lk, hcd⟩ := F.ex
  exact fn_of lk hcd S many fun A outer s H vs Q E hr q => body cdv A outer s H vs Q E hr q
theorem calX {P : Program} {w : World} {K : PySem.W.Frag} {mg : Str → Option Value} {base : Heap} {x : Str} {st : Stmt} {f : Addr} {fd : FuncData} {N ps : List Str} {k : Nat} {sp : Sp} (F : C8.Def K mg x st f fd) (b : Binds K fd ps []) (S : FnScope N ps (fnScope st)) (many : ∀ vs H Q E, sp vs H Q E → vs.length = ps.length)
    (body : ∀ (cdv : Value) (A : Around) (outer : List Env) (s : Shared) (H : Hp) (vs : List V) (Q : VK) (E : XK), Room k (A.deeper (envOfC x (fnScope st) s.heap.objs.size f cdv)) → sp vs H Q E →
      ∃ t, PSs (cxOf (L2.CX P w) P w K mg base N x (fnScope st) f cdv A outer s H E) (fnBody st) t ∧ t { nx := fun _ H' => Q .non H', rt := Q } (start N vs) H) : CalX P w K mg base (k + 1) x sp :=
  ⟨f, fd, ps, fnX F.fn S many body, F.mgf, F.kp, b⟩
section
variable {X : Cx} {k j : Nat} {x : Str} {sp : Sp} {p pos : Pos} {e : Expr} {es : List Expr} {t : TA}
/-- called where nothing that it raises is wished for -/
theorem pe_x0 (c : CalX X.prog X.w X.K X.mg X.base k x sp) (hr : Room j X.A) (hk : k ≤ j) (hg : Gl X x) (ha : PA X (e :: es) t) (hdb : (x == ("__debug__" : Str)) = false := by decide) (he : starEach (e :: es) X.env = (false, eval e X.env) :: starEach es X.env := by rfl) (hpl : (backTo pos (starEach es X.env)).any (·.1) = false := by rfl) :
    PE X (.Call (.Name x p) (e :: es) [] pos) (tCall sp [] E0 t) := by
  obtain ⟨f, fd, ps, F, hm, kp, b⟩ := c.ex
  exact pe_call F (hr.mono hk) hg hm kp b .nil passL ha hdb he hpl
/-- called in a def that lets out what it raises -/
theorem pe_xE {E : XK} (c : CalX X.prog X.w X.K X.mg X.base k x sp) (hr : Room j X.A) (hk : k ≤ j) (hx : Passes (L2.CX X.prog X.w) X E) (hg : Gl X x) (ha : PA X (e :: es) t) (hdb : (x == ("__debug__" : Str)) = false := by decide) (he : starEach (e :: es) X.env = (false, eval e X.env) :: starEach es X.env := by rfl) (hpl : (backTo pos (starEach es X.env)).any (·.1) = false := by rfl) :
    PE X (.Call (.Name x p) (e :: es) [] pos) (tCall sp [] E t) := by
  obtain ⟨f, fd, ps, F, hm, kp, b⟩ := c.ex
  exact pe_call F (hr.mono hk) hg hm kp b .nil hx ha hdb he hpl
/-- called in a try -/
theorem pe_xS {W : WX} (c : CalX X.prog X.w X.K X.mg X.base k x sp) (hr : Room j X.A) (hk : k ≤ j) (tk : Takes X W) (hg : Gl X x) (ha : PA X (e :: es) t) (hdb : (x == ("__debug__" : Str)) = false := by decide) (he : starEach (e :: es) X.env = (false, eval e X.env) :: starEach es X.env := by rfl) (hpl : (backTo pos (starEach es X.env)).any (·.1) = false := by rfl) :
    PE X (.Call (.Name x p) (e :: es) [] pos) (tCallS sp (WE W) t) := by
  obtain ⟨f, fd, ps, F, hm, kp, b⟩ := c.ex
  exact pe_callS F (hr.mono hk) hg hm kp b (fun σ => passAt tk σ) ha hdb he hpl
end
end
abbrev ovT : List Value := [.type "OverflowError", .type "ArithmeticError", .type "Exception", .type "BaseException", .type "object"]
/-- what the top has written of the class at C -/
structure LimT (K : PySem.W.Frag) (mg : Str → Option Value) (C : Addr) : Prop where
  T : ExC K C ovT "OverflowError.__new__"
  tk : PySem.W.takerIn K C "limit" = some none
  gC : mg "LimitExceeded" = some (.ref C)
  ini : ∃ (fI : Addr) (fd : FuncData), PySem.W.findIn K (.ref C) "__init__" = some (some (.ref fI)) ∧ PySem.W.typeIn K (.ref fI) = some (.type "function") ∧ C8.Fun K "__init__" "LimitExceeded.__init__" stC_LimitExceeded___init__ fI fd ∧ Binds K fd ["self", "limit"] []
  vV : PySem.W.findCls K (.type "OverflowError") (.type "type") "__init__" = some (.val (.builtin "OverflowError.__init__"))
  mo : mg "OverflowError" = none
  xf : XfC K C
  no : PySem.W.findIn K (.ref C) "limit" = some none
  ee : PySem.W.exmOne K (.ref C) (.ref C) = some true
theorem sc_limI : FnScope ["self", "limit"] ["self", "limit"] (fnScope stC_LimitExceeded___init__) := fnScope_by (by decide +kernel)
def spLimI (K : PySem.W.Frag) (C : Addr) : Sp := fun vs H Q _ => ∃ (a : Addr) (i : Int), vs = [.ref a, .int i] ∧ i.natAbs.log2 < 1920 ∧ (Str.ofString "more than " ++ toString i).length ≤ sizeLine ∧ H a = some (exo a C none) ∧ ∀ dx, H dx = none → dx ≠ a → Q .non (upd (upd H dx (exd dx [("limit", .int i)])) a (exo a C (some dx)))
/-- what is raised: the number under limit, in a dict of its own -/
def XLim (C : Addr) (n : Int) (H : Hp) (E : XK) : Prop := ∀ d H', H d = none → Same H H' → H' d = some (.xd [("limit", .int n)]) → E (.ref C) (some d) H'
section
open PySem.Spec PyProof.Rows
variable {P : Program} {w : World} {K : PySem.W.Frag} {mg : Str → Option Value} {base : Heap}
theorem fn_limI {fI C : Addr} {fd : FuncData} (L : LimT K mg C) (F : C8.Fun K "__init__" "LimitExceeded.__init__" stC_LimitExceeded___init__ fI fd) : FnOk P w K mg base CX0 1 fI fd ["self", "limit"] (spLimI K C) := by
  refine C8.fn0 F sc_limI (fun vs H Q E h => ?_) (fun cdv A outer s H vs Q E hr h => ?_)
  · obtain ⟨a, i, rfl, _⟩ := h
    rfl
  · obtain ⟨a, i, rfl, small, room, ha, go⟩ := h
    refine ⟨_, pss_cons (ps_expr (pe_xbase PySem.F.excBase_OverflowError (by rfl) L.mo L.vV (pa_cons (pv 0) (pa_cons (pe_joined (.cons pe_str (.cons (pe_fmtR (pv 1)) .nil))) pa_nil))))
      (pss_one (ps_xput (newId := "OverflowError.__new__") PySem.F.store_OverflowError (pv 0) (pv 1))), ?_⟩
    refine ⟨_, rfl, _, rfl, (by show (Str.empty ++ Str.ofString "more than ").length ≤ sizeLine; exact Nat.le_trans (by decide +kernel : _ ≤ 10) (by decide)), _, rfl, .inr ⟨i, rfl, small, _, rfl, ?_, a, C, _, rfl, (by show 1 ≤ 1000; decide), L.T, ha, ?_⟩⟩
    · have e : Str.empty ++ Str.ofString "more than " = Str.ofString "more than " := by decide +kernel
      rw [e]
      exact room
    · exact ⟨_, rfl, _, rfl, a, C, rfl, L.T, L.tk, ha, fun dx n ne => go dx n ne⟩
theorem lim_room {i : Int} (h0 : 0 ≤ i) (h1 : i ≤ 1000) : i.natAbs.log2 < 1920 ∧ (Str.ofString "more than " ++ toString i).length ≤ sizeLine := by
  obtain ⟨n, rfl⟩ : ∃ n : Nat, i = (n : Int) := ⟨i.toNat, by omega⟩
  have hn : n < 1001 := by omega
  have all : ∀ n : Nat, n < 1001 → (n : Int).natAbs.log2 < 1920 ∧ (Str.ofString "more than " ++ toString (n : Int)).length ≤ 100 := by decide +kernel
  exact ⟨(all n hn).1, Nat.le_trans (all n hn).2 (by decide)⟩
/-- raise LimitExceeded(e), e a small number -/
theorem ps_lim {X : Cx} {C : Addr} {k : Nat} {W : WX} {e : Expr} {te : TE} {p q1 pos : Pos} (hc : X.calm = true) (L : LimT X.K X.mg C) (hr : Room (k + 2) X.A) (tk : Takes X W) (he' : PE X e te) (hg : Gl X "LimitExceeded" := by rfl)
    (he : starEach (e :: []) X.env = (false, eval e X.env) :: starEach [] X.env := by rfl) (hpl : (backTo q1 (starEach [] X.env)).any (·.1) = false := by rfl) :
    PS X (.Raise (some (.Call (.Name "LimitExceeded" p) [e] [] q1)) none pos) (fun _ σ H => tXmk C (spLimI X.K C) (tCons te tNil) σ H fun cls d H' => W cls d σ H') := by
  obtain ⟨fI, fd, iC, tI, FI, b⟩ := L.ini
  exact ps_raise (pos := pos) hc tk (pmk_x (p := p) (pos := q1) PySem.F.excBase_OverflowError L.T iC tI (fn_limI (P := X.prog) (w := X.w) (base := X.base) L FI) (hr.mono (by omega)) b pass0 hg L.gC (pa_cons he' pa_nil he) (by decide) he hpl)
theorem lim_read {K : PySem.W.Frag} {C : Addr} {i : Int} {H1 : Hp} {G : XK} (h0 : 0 ≤ i) (h1 : i ≤ 1000) (go : XLim C i H1 G) : ([V.int i] : List V).length ≤ 1000 ∧ ∀ a, H1 a = none → spLimI K C [.ref a, .int i] (upd H1 a (exo a C none))
    (fun v H2 => v = .non ∧ ∃ (d : Addr) (fs : List (Str × V)), H2 a = some (exo a C (some d)) ∧ H2 d = some (exd d fs) ∧ H1 d = none ∧ G (.ref C) (some d) (upd (del H2 a) d (.xd fs))) (fun _ _ _ => False) := by
  obtain ⟨r1, r2⟩ := lim_room h0 h1
  refine ⟨by show 1 ≤ 1000; decide, fun a ha => ⟨a, i, rfl, r1, r2, upd_same, fun dx n ne => ⟨rfl, dx, [("limit", .int i)], upd_same, ?_, ?_, ?_⟩⟩⟩
  · rw [upd_ne ne, upd_same]
  · rw [upd_ne ne] at n
    exact n
  · rw [upd_ne ne] at n
    refine go dx _ n (fun b o e => ?_) upd_same
    have nb := ne_of_none e n
    have na := ne_of_none e ha
    rw [upd_ne nb, del_ne na, upd_ne na, upd_ne nb, upd_ne na]
    exact e
end

/-! ### the program: a writer with a kind more; its bounds -/
theorem walk_enumT {K : PySem.W.Frag} {a : Addr} {xs : List V} {body : V → Hp → (Hp → Prop) → Prop} {H0 : Hp} {Qd : Hp → Prop} (Pv : Nat → Hp → Prop) (h0 : Pv 0 H0) (hq : ∀ i H, Pv i H → SqT K H a xs)
    (hs : ∀ (i : Nat) x T H, xs[i]? = some x → Pv i H → H T = none → body (.ref T) (upd H T (.tup [.int (i : Nat), x])) (Pv (i + 1))) (hd : ∀ H, Pv xs.length H → Qd H) :
    ∃ W : Nat → Nat → Hp → Prop, (∃ m, W 0 m H0) ∧ ∀ i m H, W i m H → ((ET.IteT K a).stop i H ∧ Qd H) ∨ ((ET.IteT K a).go i H ∧ ∃ Nx : Hp → Prop, (∀ H', Nx H' → ∃ m', m' < m ∧ W (i + 1) m' H') ∧ ∀ x H', (ET.IteT K a).yld i H x H' → body x H' Nx) := by
  refine ⟨fun i m H => m = xs.length - i ∧ i ≤ xs.length ∧ Pv i H, ⟨xs.length, rfl, Nat.zero_le _, h0⟩, fun i m H ⟨em, hi, p⟩ => ?_⟩
  have qx := hq i H p
  rcases Nat.lt_or_eq_of_le hi with lt | eq
  · refine .inr ⟨⟨xs, xs[i], qx, List.getElem?_eq_getElem lt⟩, Pv (i + 1), fun H' p' => ⟨xs.length - (i + 1), by omega, rfl, lt, p'⟩, fun x H' y => ?_⟩
    obtain ⟨T, x1, ev, hT, e, hx⟩ := y
    rw [e, ev]
    exact hs i x1 T H (hx xs qx) p hT
  · refine .inl ⟨⟨xs, qx, Nat.le_of_eq eq.symm⟩, hd H ?_⟩
    rw [← eq]
    exact p
structure CM (mg : Str → Option Value) : Prop where
  st : ∃ t, mg "MOST_STATES" = some (.int 12 t)
  bu : ∃ t, mg "MOST_BUFFERS" = some (.int 3 t)
  le : ∃ t, mg "MOST_LETTERS" = some (.int 240 t)
theorem pe_numM {X : Cx} {x : Str} {n : Int} {pos : Pos} (hg : Gl X x) (h : ∃ t, X.mg x = some (.int n t)) (hd : (x == ("__debug__" : Str)) = false := by decide) : PE X (.Name x pos) (tC (.int n)) := by
  obtain ⟨t, e⟩ := h
  exact pe_glob (v := .int n) hg e ⟨_, rfl⟩ hd
def spBounds (C : Addr) : Sp := fun vs H Q E => ∃ (a : V) (W : Wr), vs = [a] ∧ Tp H a W.d ∧ WSz W ∧ W.rules.length ≤ 12 ∧ W.begins.length ≤ 3 ∧
  ∀ m, m ∈ placesW W → (∀ n ∈ placesW W, n ≤ m) → (m ≤ 240 → ∀ H', Same H H' → Q a H') ∧ (240 < m → ∀ H', Same H H' → XLim C 240 H' E)
theorem sc_bounds : FnScope ["writer"] ["writer"] (fnScope st_require_bounds_) := fnScope_by (by decide +kernel)
def nMark : List Str := ["writer", "word", "begins", "rules", "ends", "rows", "state", "row"]
theorem sc_mark : FnScope nMark ["writer", "word"] (fnScope st_marked_) := fnScope_by (by decide +kernel)
/-- the word fits at each state; what is made has a bounded size -/
structure MT (k S B : Nat) (W : Wr) (ns : List Nat) : Prop where
  wt : WT k S B W
  hn : ∀ i ∈ ns, i < k
  len : ns.length ≤ 1000
  fit : ∀ st, st < S → ∀ j, j ≤ ns.length → FE S B ((ns.take j).foldl (stepE W) (some (st, ownF W.begins.length)))
  sz : WSz (markW W ns)
  S12 : S ≤ 12
  B3 : B ≤ 3
def spMarked (C : Addr) : Sp := fun vs H Q E => ∃ (a t : V) (W : Wr) (ns : List Nat) (k S B : Nat), vs = [a, t] ∧ Tp H a W.d ∧ Tp H t (wordD ns) ∧ MT k S B W ns ∧
  ∀ m, m ∈ placesW (markW W ns) → (∀ n ∈ placesW (markW W ns), n ≤ m) → (m ≤ 240 → ∀ (v : V) H', Same H H' → Tp H' v (markW W ns).d → Q v H') ∧ (240 < m → ∀ H', Same H H' → XLim C 240 H' E)
section
variable {P : Program} {w : World} {K : PySem.W.Frag} {mg : Str → Option Value} {base : Heap} {f : Addr} {fd : FuncData}
theorem cal_bounds {C : Addr} (L : LimT K mg C) (F : C8.Def K mg "require_bounds" st_require_bounds_ f fd) (b : Binds K fd ["writer"] []) (B : BN3 mg) (N : CM mg) (Cm : Cal P w K mg base 2 "most_letters" spMost []) : CalX P w K mg base 4 "require_bounds" (spBounds C) := by
  refine calX F b sc_bounds (fun vs H Q E h => ?_) (fun cdv A outer s H vs Q E hr h => ?_)
  · obtain ⟨a, W, rfl, _⟩ := h
    rfl
  · obtain ⟨a, W, rfl, ha, hW, h12, h3, k⟩ := h
    have ha0 := ha
    obtain ⟨a, vb, vr, ve, rfl, w1, tb, tr, te⟩ := ha.w_inv
    obtain ⟨ba, bx, rfl, tb1, tb2⟩ := tb.tup_inv
    obtain ⟨ra, rx, rfl, tr1, tr2⟩ := tr.tup_inv
    have lb : bx.length = W.begins.length := by rw [tb2.len, List.length_map]
    have lr : rx.length = W.rules.length := by rw [tr2.len, List.length_map]
    refine ⟨_, pss_cons (ps_if (pt_cmpR op_gt (pe_callB call_len_seq (by rfl) B.len PySem.boot_len (pa_cons (pe_ix ix_tup (pv 0) pe_int (fun _ _ => rfl)) pa_nil)) (pe_numM (by rfl) N.st) (nomark _)) (pss_one (ps_lim (k := 1) rfl L hr (takes_of rfl rfl rfl rfl) (pe_numM (by rfl) N.st))) pss_nil)
      (pss_cons (ps_if (pt_cmpR op_gt (pe_callB call_len_seq (by rfl) B.len PySem.boot_len (pa_cons (pe_ix ix_tup (pv 0) pe_int (fun _ _ => rfl)) pa_nil)) (pe_numM (by rfl) N.bu) (nomark _)) (pss_one (ps_lim (k := 1) rfl L hr (takes_of rfl rfl rfl rfl) (pe_numM (by rfl) N.bu))) pss_nil)
      (pss_cons (ps_if (pt_cmpR op_gt (pe_c Cm hr (by decide) (by rfl) (pa_cons (pv 0) pa_nil)) (pe_numM (by rfl) N.le) (nomark _)) (pss_one (ps_lim (k := 1) rfl L hr (takes_of rfl rfl rfl rfl) (pe_numM (by rfl) N.le))) pss_nil)
      (pss_one (ps_ret (pv 0))))), ?_⟩
    refine ⟨_, rfl, a, _, _, _, rfl, rfl, SqT.of w1, atI_nat (j := 1) rfl, ra, _, rfl, .inr (SqT.of tr1), _, _, rfl, rfl, _, rfl, ?_⟩
    refine iteF' (decide_eq_false (by rw [lr]; omega)) ?_
    refine ⟨_, rfl, a, _, _, _, rfl, rfl, SqT.of w1, atI_nat (j := 0) rfl, ba, _, rfl, .inr (SqT.of tb1), _, _, rfl, rfl, _, rfl, ?_⟩
    refine iteF' (decide_eq_false (by rw [lb]; omega)) ?_
    refine ⟨_, rfl, .ref a, W, rfl, ha0, hW, fun m H1 s1 hm hle => ⟨_, _, rfl, rfl, _, rfl, ?_⟩⟩
    obtain ⟨k1, k2⟩ := k m hm hle
    by_cases c : m ≤ 240
    · exact iteF' (decide_eq_false (by omega)) ⟨_, rfl, k1 c _ s1⟩
    · refine iteT' (decide_eq_true (by omega)) ?_
      exact lim_read (by decide) (by decide) (k2 (by omega) _ s1)
theorem cal_marked {C : Addr} (F : C8.Def K mg "marked" st_marked_ f fd) (b : Binds K fd ["writer", "word"] []) (B : BN3 mg) (Be : mg "enumerate" = none) (Ce : Cal P w K mg base 3 "entry_along" spEnt []) (Cb : CalX P w K mg base 4 "require_bounds" (spBounds C)) : CalX P w K mg base 5 "marked" (spMarked C) := by
  refine calX F b sc_mark (fun vs H Q E h => ?_) (fun cdv A outer s H vs Q E hr h => ?_)
  · obtain ⟨a, t, W, ns, k, S, B, rfl, _⟩ := h
    rfl
  · obtain ⟨a, t, W, ns, kk, S, Bf, rfl, ha, ht, hM, k⟩ := h
    have ha0 := ha
    obtain ⟨a, vb, vr, ve, rfl, w1, tb, tr, te⟩ := ha.w_inv
    obtain ⟨ra, rx, rfl, tr1, tr2⟩ := tr.tup_inv
    have lr : rx.length = W.rules.length := by rw [tr2.len, List.length_map]
    refine ⟨_, pss_cons (ps_asg (pv 0) (pg_tup rfl (pgs_cons (pg_name (i := 2) sc_mark.nd rfl (Or.inl rfl)) (pgs_cons (pg_name (i := 3) sc_mark.nd rfl (Or.inl rfl)) (pgs_cons (pg_name (i := 4) sc_mark.nd rfl (Or.inl rfl)) pgs_nil)))))
      (pss_cons (ps_setLc (i := 5) (own := [("state", 6), ("row", 7)]) (g := gTup K 2 (gCons (gName 6) (gCons (gName 7) gNil))) (tt := tYes) (by rfl) sc_mark.nd rfl rfl (sw_true rfl rfl rfl (by decide +kernel)) (ET.pi_enumT rfl Be (pa_cons (pv 3) pa_nil)) (blkOk_by (own := [("state", 6), ("row", 7)]) (N := nMark) (sc := fnScope st_marked_) (by decide +kernel))
        (fun _ _ _ _ _ => pg_tupK K rfl (pgs_cons (pg_name (i := 6) sc_mark.nd rfl (Or.inl rfl)) (pgs_cons (pg_name (i := 7) sc_mark.nd rfl (Or.inl rfl)) pgs_nil))) (fun _ _ _ _ _ => pts_nil)
        (fun _ _ _ _ _ => pe_op (op_catAK K) (pv 7) (pe_tup (pa_cons (pe_c Ce hr (by decide) (by rfl) (pa_cons (pv 0) (pa_cons (pv 6) (pa_cons (pv 1) pa_nil)))) pa_nil))))
      (pss_one (ps_ret (pe_xE (E := E) Cb hr (by decide) (passes_call (takes_of rfl rfl rfl rfl) (fun _ _ _ _ h => h)) (by rfl) (pa_cons (pe_tup (pa_cons (pv 2) (pa_cons (pe_callTy call_tuple_of (by rfl) B.tuple (by decide +kernel) (pa_cons (pv 5) pa_nil)) (pa_cons (pv 4) pa_nil)))) pa_nil))))), ?_⟩
    have tb0 := tb
    have te0 := te
    refine ⟨_, rfl, a, _, rfl, SqT.of w1, rfl, _, _, rfl, _, _, rfl, _, _, rfl, rfl, ?_⟩
    refine ⟨_, rfl, ra, rx, rfl, SqT.of tr1, fun D hD => ?_⟩
    refine walk_enumT (K := K) (a := ra) (xs := rx) (fun i H' => Same H H' ∧ LAt H' D (((markW W ns).rules.take i).map rowD)) ⟨same_new hD, [], upd_same, .nil⟩ (fun i H' h => SqT.of (h.1 _ _ tr1)) ?_ ?_
    · rintro i x T H1 hi ⟨s1, us, hu, au⟩ hT
      have ilt : i < W.rules.length := by
        have q := (List.getElem?_eq_some_iff.mp hi).1
        omega
      obtain ⟨x', hx', tx⟩ := tr2.at (List.getElem?_eq_getElem ilt)
      rw [hi] at hx'
      cases hx'
      have iS : i < S := by rw [← hM.wt.r1]; exact ilt
      have hrow : (markW W ns).rules[i]? = some (W.rules[i] ++ [entW W i ns]) := by
        show ((List.range W.rules.length).map fun i => W.rules.getD i [] ++ [entW W i ns])[i]? = _
        rw [List.getElem?_map, List.getElem?_range ilt]
        show some (W.rules.getD i [] ++ _) = _
        rw [List.getD_eq_getElem?_getD, List.getElem?_eq_getElem ilt]
        rfl
      have rl := (hM.sz.r3 _ (List.mem_of_getElem? hrow)).1
      rw [List.length_append, List.length_singleton] at rl
      have few := hM.sz.r2
      generalize W.rules[i] = row at tx hrow rl
      have sT := same_new (o := .tup [V.int (i : Nat), x]) hT
      have s2 := Same.trans s1 sT
      have hTT : upd H1 T (.tup [V.int (i : Nat), x]) T = some (.tup [V.int (i : Nat), x]) := upd_same
      have hu2 := sT _ _ hu
      have au2 := au.mono (Same.tk sT)
      generalize upd H1 T (.tup [V.int (i : Nat), x]) = H2 at s2 hTT hu2 au2 ⊢
      refine ⟨T, _, rfl, SqT.of hTT, rfl, _, _, rfl, _, _, rfl, rfl, rfl, ?_⟩
      refine ⟨_, rfl, _, rfl, _, rfl, _, rfl, .ref a, t, i, W, ns, kk, S, Bf, rfl, ha0.mono (Same.tk s2), ht.mono (Same.tk s2), hM.wt, iS, hM.hn, hM.len, hM.fit i iS, fun v H3 s3 tv => ⟨(by show 1 ≤ sizeLine; decide), fun q hq => ?_⟩⟩
      have sq := same_new (o := .tup [v]) hq
      have s23 := Same.trans s2 (Same.trans s3 sq)
      refine cat_tp (ds := row.map entD) (es := [entD (entW W i ns)]) (tx.mono (Same.tk s23)) (.tup upd_same (.cons (tv.mono (Same.tk sq)) .nil)) (by rw [List.length_map]; omega) (by show 1 ≤ 10000; decide) fun v2 H4 s4 tv2 => ?_
      have s24 := Same.trans (Same.trans s3 sq) s4
      refine ⟨us, s24 _ _ hu2, ?_, Same.put (Same.trans s2 s24) hD, ?_⟩
      · rw [au2.len, List.length_map, List.length_take]
        exact Nat.lt_of_le_of_lt (Nat.le_trans (Nat.min_le_right _ _) few) (by decide)
      · rw [take_map_more hrow]
        refine LAt.push (s24 _ _ hu2) (au2.mono (Same.tk s24)) ?_
        unfold rowD
        rw [List.map_append]
        exact tv2
    · rintro H1 ⟨s1, us, hu, au⟩
      have ml : (markW W ns).rules.length = rx.length := by
        show ((List.range W.rules.length).map fun i => W.rules.getD i [] ++ [entW W i ns]).length = _
        rw [List.length_map, List.length_range, lr]
      rw [← ml, List.take_length] at au
      refine ⟨_, rfl, _, rfl, D, us, rfl, .inl ⟨SqL.of hu, fun rt hrt => ⟨_, rfl, (by show 3 ≤ sizeLine; decide), fun q hq => ?_⟩⟩⟩
      have s2 := Same.trans (same_new (o := .tup us) hrt) (same_new (o := .tup [vb, .ref rt, ve]) hq)
      have s12 := Same.trans s1 s2
      refine ⟨.ref q, markW W ns, rfl, .tup upd_same (.cons (tb0.mono (Same.tk s12)) (.cons (.tup ((tk_new hq) _ _ upd_same) (au.mono (Same.tk s2))) (.cons (te0.mono (Same.tk s12)) .nil))), hM.sz, ?_, ?_, fun m hm hle => ?_⟩
      · rw [ml, lr, hM.wt.r1]
        exact hM.S12
      · show W.begins.length ≤ 3
        rw [hM.wt.b1]
        exact hM.B3
      · obtain ⟨k1, k2⟩ := k m hm hle
        refine ⟨fun c H' s' => k1 c _ _ (Same.trans s12 s') ?_, fun c H' s' => k2 c _ (Same.trans s12 s')⟩
        refine Tp.mono (Same.tk s') ?_
        exact .tup upd_same (.cons (tb0.mono (Same.tk s12)) (.cons (.tup ((tk_new hq) _ _ upd_same) (au.mono (Same.tk s2))) (.cons (te0.mono (Same.tk s12)) .nil)))
end

/-! ### the law: a writer with a kind more, words without it, the limit -/
theorem sc_lfilled : FnScope ["recipe", "fills", "parts", "part"] ["recipe", "fills"] (fnScope st_law_filled) := fnScope_by (by decide +kernel)
def nLEnt : List Str := ["writer", "state", "word", "fills", "kind", "entry", "buffer", "recipe"]
theorem sc_lent : FnScope nLEnt ["writer", "state", "word"] (fnScope st_law_entry) := fnScope_by (by decide +kernel)
def nLMark : List Str := ["writer", "word", "rules", "state", "row"]
theorem sc_lmark : FnScope nLMark ["writer", "word"] (fnScope st_law_marked) := fnScope_by (by decide +kernel)
theorem sc_unm : FnScope ["word", "mark", "other", "found", "kind"] ["word", "mark", "other"] (fnScope st_law_unmarked) := fnScope_by (by decide +kernel)
theorem sc_limit : FnScope ["writer", "word", "found", "e"] ["writer", "word"] (fnScope st_law_limit) := fnScope_by (by decide +kernel)
def spLMark : Sp := fun vs H Q _ => ∃ (a t : V) (W : Wr) (ns : List Nat) (k S B : Nat), vs = [a, t] ∧ Tp H a W.d ∧ Tp H t (wordD ns) ∧ MT k S B W ns ∧ ∀ (v : V) H', Same H H' → Tp H' v (markW W ns).d → Q v H'
def spUnm : Sp := fun vs H Q _ => ∃ (t o : V) (k : Nat) (so ns : List Nat), vs = [t, .int k, o] ∧ Tp H t (wordD so) ∧ Tp H o (wordD ns) ∧ so.length ≤ 50 ∧ ns.length ≤ 50 ∧ ∀ (v : V) H', Same H H' → Tp H' v (wordD (unm k ns so)) → Q v H'
def limV (m : Nat) : V := if m ≤ 240 then .non else .int 240
def spLimit : Sp := fun vs H Q _ => ∃ (a t : V) (W : Wr) (ns : List Nat) (k S B : Nat), vs = [a, t] ∧ Tp H a W.d ∧ Tp H t (wordD ns) ∧ MT k S B W ns ∧
  ∀ m, m ∈ placesW (markW W ns) → (∀ n ∈ placesW (markW W ns), n ≤ m) → ∀ H', Same H H' → Q (limV m) H'
section
variable {P : Program} {w : World} {K : PySem.W.Frag} {mg : Str → Option Value} {base : Heap} {f : Addr} {fd : FuncData}
theorem cal_lfilled (F : C8.Def K mg "_law_filled" st_law_filled f fd) (b : Binds K fd ["recipe", "fills"] []) (B : BN2 mg) (Cn : Cal P w K mg base 1 "_law_normal" (spNormal K) []) : Cal P w K mg base 2 "_law_filled" spPut [] := by
  refine cal0 F b .nil sc_lfilled (fun vs H Q E h => ?_) (fun cdv A outer s H vs Q E hr h => ?_)
  · obtain ⟨a, t, r, fl, n, rfl, _⟩ := h
    rfl
  · obtain ⟨a, t, r, fl, n, rfl, ha, ht, hr', hl, hf, k⟩ := h
    obtain ⟨a, rfl, ha1⟩ := ha.rc_inv
    obtain ⟨t, ys, rfl, ht1, ht2⟩ := ht.tup_inv
    have J := put_jok hr' hl hf
    refine ⟨_, pss_cons (ps_set (i := 2) sc_lfilled.nd rfl (Or.inl rfl) (pe_lst pa_nil))
      (pss_cons (ps_for PassesOwn.never rfl (pi_tup (pv 0)) (pg_name (i := 3) sc_lfilled.nd rfl (Or.inl rfl))
        (pss_one (ps_set (i := 2) sc_lfilled.nd rfl (Or.inl rfl) (pe_op op_cat (pv 2) (pe_ifExp (pt_val (pe_callB call_isi (by rfl) B.isi (by decide +kernel) (pa_cons (pv 3) (pa_cons (pe_bltn (v := .ty "str") (by rfl) B.str (by decide +kernel) rfl) pa_nil)))) (pe_lst (pa_cons (pv 3) pa_nil))
          (pe_callTy call_list_of (by rfl) B.list (by decide +kernel) (pa_cons (pe_ix ix_tup (pv 1) (pv 3) (fun _ _ => rfl)) pa_nil)))))))
      (pss_one (ps_ret (pe_c Cn hr (by decide) (by rfl) (pa_cons (pv 2) pa_nil))))), ?_⟩
    refine ⟨Nat.zero_le _, fun q0 hq0 => ?_⟩
    have sq0 := same_new (o := .lst []) hq0
    have len10 := hr'.len
    have few : ∀ i, ((r.take i).map (putR fl)).flatten.length ≤ 1000 := fun i => by
      have e : ∀ l : Rc, (∀ q ∈ l, q ∈ r) → ((l.map (putR fl)).flatten).length ≤ 100 * l.length := by
        intro l
        induction l with
        | nil => exact fun _ => Nat.zero_le _
        | cons q l ih =>
          intro h
          have a1 := ih fun y hy => h y (List.mem_cons_of_mem _ hy)
          have a2 := (putR_ok hr' hl hf (h q List.mem_cons_self)).1
          rw [List.map_cons, List.flatten_cons, List.length_append, List.length_cons, Nat.mul_succ]
          omega
      have a1 := e (r.take i) fun q hq => List.mem_of_mem_take hq
      have a2 : (r.take i).length ≤ 10 := by rw [List.length_take]; omega
      omega
    refine ⟨_, rfl, a, rfl, ⟨_, SqT.of (sq0 _ _ ha1)⟩, for_tup (K := K) (a := a) (xs := r.map Pt.v) (fun i σ H' => Same H H' ∧ ∃ (q : Addr) (v3 : Option V), σ = [some (.ref a), some (.ref t), some (.ref q), v3] ∧ H' q = some (.lst (((r.take i).map (putR fl)).flatten.map Pt.v))) ⟨sq0, q0, _, rfl, upd_same⟩ (fun i σ H' _ h => SqT.of (h.1 _ _ ha1)) ?_ ?_⟩
    · rintro i x σ H1 hi ⟨s1, q, v3, rfl, hq⟩
      obtain ⟨y, hy, rfl⟩ : ∃ y, r[i]? = some y ∧ x = Pt.v y := by
        rw [List.getElem?_map] at hi
        cases e : r[i]? with
        | none =>
          rw [e] at hi
          cases hi
        | some y =>
          rw [e] at hi
          exact ⟨y, rfl, (Option.some.inj hi).symm⟩
      have more : ((r.take (i + 1)).map (putR fl)).flatten = ((r.take i).map (putR fl)).flatten ++ putR fl y := by
        rw [List.take_add_one, hy, List.map_append, List.flatten_append]
        show _ ++ [putR fl y].flatten = _
        rw [List.flatten_cons, List.flatten_nil, List.append_nil]
      have f1 := few (i + 1)
      rw [more, List.length_append] at f1
      have done : ∀ (q2 : Addr) (H2 : Hp), Same H1 H2 → H2 q2 = some (.lst ((putR fl y).map Pt.v)) → rCat (.ref q) (.ref q2) H2 (fun z H' => Same H H' ∧ ∃ (q' : Addr) (v3 : Option V), ([some (.ref a), some (.ref t), some z, some y.v] : L2.St) = [some (.ref a), some (.ref t), some (.ref q'), v3] ∧ H' q' = some (.lst (((r.take (i + 1)).map (putR fl)).flatten.map Pt.v))) := fun q2 H2 s2 h2 => by
        refine ⟨q, q2, _, _, rfl, rfl, s2 _ _ hq, h2, ?_, fun p hp => ⟨Same.trans (Same.trans s1 s2) (same_new hp), p, _, rfl, ?_⟩⟩
        · rw [List.length_map, List.length_map]
          exact Nat.le_trans f1 (by decide)
        · rw [upd_same, more, List.map_append]
      obtain ⟨ty, tb, t1, t2, t3, t4⟩ := isi_pt (K := K) (H := H1) y
      refine ⟨_, rfl, _, rfl, y.v, _, ty, _, tb, rfl, .ty _, t1, t2, _, rfl, ?_⟩
      cases tb with
      | true =>
        obtain ⟨z, rfl⟩ := t3 rfl
        exact iteT ⟨_, rfl, (by show 1 ≤ sizeLine; decide), fun p hp => done p _ (same_new hp) upd_same⟩
      | false =>
        obtain ⟨j, rfl⟩ := t4 rfl
        have hj : j < fl.length := by rw [hl]; exact hr'.b j (List.mem_flatMap.mpr ⟨_, List.mem_of_getElem? hy, List.mem_singleton.mpr rfl⟩)
        obtain ⟨z, y1, y2⟩ := ht2.at (List.getElem?_eq_getElem hj)
        have e : fl[j] = putR fl (.b j) := by
          show _ = fl.getD j []
          rw [List.getD_eq_getElem?_getD, List.getElem?_eq_getElem hj]
          rfl
        rw [e] at y2
        obtain ⟨za, rfl, hza⟩ := y2.rc_inv
        exact iteF ⟨_, rfl, _, rfl, t, _, (j : Int), _, rfl, rfl, SqT.of (s1 _ _ ht1), atI_nat y1, za, _, rfl, .inr (SqT.of (s1 _ _ hza)), fun p hp => done p _ (same_new hp) upd_same⟩
    · rintro σ H1 ⟨s1, q, v3, rfl, hq⟩
      rw [List.length_map, List.take_length] at hq
      have f0 := few r.length
      rw [List.take_length] at f0
      exact ⟨_, rfl, q, _, rfl, SqL.of hq, f0, J.lt, J.low, fun t' H2 s2 _ ht' => k _ _ (Same.trans s1 s2) (tp_rc ht')⟩
theorem cal_lent (F : C8.Def K mg "_law_entry" st_law_entry f fd) (b : Binds K fd ["writer", "state", "word"] []) (B : BN2 mg) (Cp : Cal P w K mg base 2 "_law_filled" spPut []) : Cal P w K mg base 3 "_law_entry" spEnt [] := by
  refine cal0 F b .nil sc_lent (fun vs H Q E h => ?_) (fun cdv A outer s H vs Q E hr h => ?_)
  · obtain ⟨a, t, st, W, ns, kk, S, Bf, rfl, _⟩ := h
    rfl
  · obtain ⟨a, t, st0, W, ns, kk, S, Bf, rfl, ha, ht, hW, hS, hn, hl, hfit, k⟩ := h
    obtain ⟨a, vb, vr, ve, rfl, w1, tb, tr, te⟩ := ha.w_inv
    obtain ⟨ba, bx, rfl, tb1, tb2⟩ := tb.tup_inv
    obtain ⟨ra, rx, rfl, tr1, tr2⟩ := tr.tup_inv
    obtain ⟨t, rfl, ht1⟩ := ht.word_inv
    have lb : bx.length = W.begins.length := by rw [tb2.len, List.length_map]
    have b10 : W.begins.length ≤ 10 := by have := hW.b1; have := hW.b3; omega
    refine ⟨_, pss_cons (ps_set (i := 3) sc_lent.nd rfl (Or.inr rfl) (pe_callTy call_tuple_of (by rfl) B.tuple (by decide +kernel) (pa_cons (pe_lc (own := [("buffer", 6)]) (g := gName 6) (tt := tYes) (by rfl) sc_lent.nd (pi_range1 rfl B.range (pa_cons (pe_callB call_len_seq (by rfl) B.len PySem.boot_len (pa_cons (pe_ix ix_tup (pv 0) pe_int (fun _ _ => rfl)) pa_nil)) pa_nil)) (blkOk_by (own := [("buffer", 6)]) (N := nLEnt) (sc := fnScope st_law_entry) (by decide +kernel))
          (fun _ _ _ _ _ => pg_name (i := 6) sc_lent.nd rfl (Or.inl rfl)) (fun _ _ _ _ _ => pts_nil) (fun _ _ _ _ _ => pe_tup (pa_cons (pv 6) pa_nil))) pa_nil)))
      (pss_cons (ps_for PassesOwn.never rfl (pi_tup (pv 2)) (pg_name (i := 4) sc_lent.nd rfl (Or.inl rfl))
        (pss_cons (ps_set (i := 5) sc_lent.nd rfl (Or.inl rfl) (pe_ix ix_tup (pe_ix ix_tup (pe_ix ix_tup (pv 0) pe_int (fun _ _ => rfl)) (pv 1) (fun _ _ => rfl)) (pv 4) (fun _ _ => rfl)))
        (pss_cons (ps_if (pt_cmp (pc_isN (pv 5))) (pss_one (ps_ret pe_non)) pss_nil)
        (pss_cons (ps_set (i := 3) sc_lent.nd rfl (Or.inr rfl) (pe_callTy call_tuple_of (by rfl) B.tuple (by decide +kernel) (pa_cons (pe_lc (own := [("recipe", 7)]) (g := gName 7) (tt := tYes) (by rfl) sc_lent.nd (pi_tup (pe_ix ix_tup (pv 5) pe_int (fun _ _ => rfl))) (blkOk_by (own := [("recipe", 7)]) (N := nLEnt) (sc := fnScope st_law_entry) (by decide +kernel))
          (fun _ _ _ _ _ => pg_name (i := 7) sc_lent.nd rfl (Or.inl rfl)) (fun _ _ _ _ _ => pts_nil) (fun _ _ _ _ _ => pe_c Cp hr (by decide) (by rfl) (pa_cons (pv 7) (pa_cons (pv 3) pa_nil)))) pa_nil)))
        (pss_one (ps_set (i := 1) sc_lent.nd rfl (Or.inl rfl) (pe_ix ix_tup (pv 5) pe_int (fun _ _ => rfl))))))))
      (pss_one (ps_ret (pe_tup (pa_cons (pv 1) (pa_cons (pv 3) pa_nil)))))), ?_⟩
    refine ⟨_, rfl, a, _, _, _, rfl, rfl, SqT.of w1, atI_nat (j := 0) rfl, ba, _, rfl, .inr (SqT.of tb1), W.begins.length, (by rw [lb]), by omega, by omega, fun D0 hD0 => ?_⟩
    refine lc_range (lo := 0) (n := (W.begins.length : Int).toNat) (fun i H' => Same H H' ∧ LAt H' D0 (((List.range i).map fun j => [Pt.b j]).map Rc.d)) ⟨same_new hD0, [], upd_same, .nil⟩ ?_ ?_
    · rintro i H1 hi ⟨s1, us, hu, au⟩
      refine ⟨rfl, ?_⟩
      refine ⟨_, rfl, (by show 1 ≤ sizeLine; decide), fun q hq => ?_⟩
      have sq := same_new (o := .tup [V.int (0 + (i : Int))]) hq
      have hu2 := sq _ _ hu
      refine ⟨_, hu2, ?_, Same.put (Same.trans s1 sq) hD0, ?_⟩
      · rw [au.len, List.length_map, List.length_map, List.length_range]
        exact Nat.lt_of_lt_of_le (show i < 100 by omega) (by decide)
      · rw [List.range_succ, List.map_append, List.map_append]
        refine LAt.push hu2 (au.mono (Same.tk sq)) (.tup upd_same (.cons ?_ .nil))
        rw [Int.zero_add]
        exact .int (i : Int)
    rintro H0 ⟨s0, us0, hu0, au0⟩
    refine ⟨D0, us0, rfl, .inl ⟨SqL.of hu0, fun f0 hf0 => ?_⟩⟩
    have s1 := Same.trans s0 (same_new (o := .tup us0) hf0)
    have tf0 : Tp (upd H0 f0 (.tup us0)) (.ref f0) (fillsD (ownF W.begins.length)) := .tup upd_same (au0.mono (tk_new hf0))
    generalize upd H0 f0 (.tup us0) = H1 at s1 tf0 ⊢
    refine ⟨_, rfl, t, rfl, ⟨_, SqT.of (s1 _ _ ht1)⟩, for_tup (K := K) (a := t) (xs := (iN ns).map V.int) (fun i σ H' => Same H H' ∧ ∃ (st : Nat) (fl : List Rc) (fv : V) (v4 v5 : Option V), σ = [some (.ref a), some (.int st), some (.ref t), some fv, v4, v5, none, none] ∧
      (ns.take i).foldl (stepE W) (some (st0, ownF W.begins.length)) = some (st, fl) ∧ Tp H' fv (fillsD fl)) ⟨s1, st0, _, _, _, _, rfl, rfl, tf0⟩ (fun i σ H' _ h => SqT.of (h.1 _ _ ht1)) ?_ ?_⟩
    · rintro i x σ H2 hi ⟨s2, st, fl, fv, v4, v5, rfl, eE, tfv⟩
      obtain ⟨kd, hkd, rfl⟩ : ∃ kd, ns[i]? = some kd ∧ x = V.int (kd : Nat) := by
        unfold iN at hi
        rw [List.map_map, List.getElem?_map] at hi
        cases e : ns[i]? with
        | none =>
          rw [e] at hi
          cases hi
        | some y =>
          rw [e] at hi
          exact ⟨y, rfl, (Option.some.inj hi).symm⟩
      have ilt : i < ns.length := (List.getElem?_eq_some_iff.mp hkd).1
      have f0 := hfit i (Nat.le_of_lt ilt)
      rw [eE] at f0
      obtain ⟨stS, flB, flO⟩ := f0
      obtain ⟨row, en, g1, g2, g3, g4⟩ := ent_atT hW stS (hn kd (List.mem_of_getElem? hkd))
      obtain ⟨rv, y1, y2⟩ := tr2.at g1
      obtain ⟨rwa, rws, rfl, y3, y4⟩ := y2.tup_inv
      obtain ⟨ev, y5, y6⟩ := y4.at g2
      have more : (ns.take (i + 1)).foldl (stepE W) (some (st0, ownF W.begins.length)) = stepE W (some (st, fl)) kd := by rw [foldl_more (stepE W) _ hkd, eE]
      have step : stepE W (some (st, fl)) kd = stepT fl en := congrArg (stepT fl) g3
      refine ⟨_, rfl, a, _, _, _, rfl, rfl, SqT.of (s2 _ _ w1), atI_nat (j := 1) rfl, _, rfl, ra, rx, _, _, rfl, rfl, SqT.of (s2 _ _ tr1), atI_nat y1, _, rfl, rwa, rws, _, _, rfl, rfl, SqT.of (s2 _ _ y3), atI_nat y5, ?_⟩
      refine ⟨_, rfl, _, rfl, ?_⟩
      cases en with
      | none =>
        obtain rfl := y6.non_inv
        refine iteT' (decide_eq_true rfl) (k _ _ s2 ?_)
        have e : entW W st0 ns = none := by
          have z : ns = ns.take (i + 1) ++ ns.drop (i + 1) := (List.take_append_drop _ _).symm
          unfold entW
          rw [z, List.foldl_append, more, step]
          exact fold_noneE W _
        rw [e]
        exact .non
      | some y =>
        obtain ⟨tg, fs⟩ := y
        obtain ⟨ea, es, rfl, y7, y8⟩ := y6.tup_inv
        cases y8 with
        | @cons vtg x9 _ _ z1 z2 =>
        cases z2 with
        | @cons vfs x10 _ _ z3 z4 =>
        cases z4
        obtain rfl := z1.int_inv
        obtain ⟨fa, fx, rfl, f1, f2⟩ := z3.tup_inv
        obtain ⟨g5, g6, g7⟩ := g4 tg fs rfl
        refine iteF' (decide_eq_false (fun z => by cases z)) ?_
        refine ⟨_, rfl, ea, _, _, _, rfl, rfl, SqT.of (s2 _ _ y7), atI_nat (j := 1) rfl, fa, rfl, ⟨_, SqT.of (s2 _ _ f1)⟩, fun D hD => ?_⟩
        have lenx : fx.length = fs.length := by rw [f2.len, List.length_map]
        refine lc_tup (K := K) (a := fa) (xs := fx) (fun j H' => Same H2 H' ∧ LAt H' D (((fs.take j).map (put fl)).map Rc.d)) ⟨same_new hD, [], upd_same, .nil⟩ (fun j H' _ h => SqT.of (h.1 _ _ (s2 _ _ f1))) ?_ ?_
        · rintro j x H3 hj ⟨s3, us, hu, au⟩
          have jlt : j < fs.length := by
            have := (List.getElem?_eq_some_iff.mp hj).1
            omega
          obtain ⟨v, hv, tv⟩ := f2.at (List.getElem?_eq_getElem jlt)
          rw [hj] at hv
          cases hv
          have s23 := Same.trans s2 s3
          refine ⟨rfl, _, rfl, _, rfl, x, fv, fs[j], fl, Bf, rfl, tv.mono (Same.tk s23), tfv.mono (Same.tk s3), g7 _ (List.getElem_mem jlt), flB, flO, fun v8 H4 s4 tv8 => ?_⟩
          refine ⟨us, s4 _ _ hu, ?_, Same.put (Same.trans s3 s4) hD, ?_⟩
          · rw [au.len, List.length_map, List.length_map, List.length_take]
            have := hW.b3
            exact Nat.lt_of_le_of_lt (Nat.le_trans (Nat.min_le_right _ _) (show fs.length ≤ 10 by omega)) (by decide)
          · rw [take_map_more (List.getElem?_eq_getElem jlt), List.map_append]
            exact LAt.push (s4 _ _ hu) (au.mono (Same.tk s4)) tv8
        · rintro H3 ⟨s3, us, hu, au⟩
          rw [lenx, List.take_length] at au
          refine ⟨D, us, rfl, .inl ⟨SqL.of hu, fun u hu' => ?_⟩⟩
          have s4 := Same.trans s3 (same_new (o := .tup us) hu')
          refine ⟨_, rfl, ea, _, _, _, rfl, rfl, SqT.of (s4 _ _ (s2 _ _ y7)), atI_nat (j := 0) rfl, ?_⟩
          exact ⟨Same.trans s2 s4, tg, fs.map (put fl), .ref u, _, _, rfl, (by rw [more, step]; rfl), .tup upd_same (au.mono (tk_new hu'))⟩
    · rintro σ H2 ⟨s2, st, fl, fv, v4, v5, rfl, eE, tfv⟩
      have lw : ((iN ns).map V.int).length = ns.length := by
        unfold iN
        rw [List.length_map, List.length_map]
      rw [lw, List.take_length] at eE
      refine ⟨_, rfl, _, rfl, (by show 2 ≤ sizeLine; decide), fun q hq => k _ _ (Same.trans s2 (same_new hq)) ?_⟩
      have e : entW W st0 ns = some (st, fl) := eE
      rw [e]
      exact .tup upd_same (.cons (.int (st : Int)) (.cons (tfv.mono (tk_new hq)) .nil))
end

/-! ### the law's writer with a kind more; a word without it; the limit -/
section
variable {P : Program} {w : World} {K : PySem.W.Frag} {mg : Str → Option Value} {base : Heap} {f : Addr} {fd : FuncData}
theorem cal_lmark (F : C8.Def K mg "_law_marked" st_law_marked f fd) (b : Binds K fd ["writer", "word"] []) (B : BN2 mg) (Be : mg "enumerate" = none) (Ce : Cal P w K mg base 3 "_law_entry" spEnt []) : Cal P w K mg base 4 "_law_marked" spLMark [] := by
  refine cal0 F b .nil sc_lmark (fun vs H Q E h => ?_) (fun cdv A outer s H vs Q E hr h => ?_)
  · obtain ⟨a, t, W, ns, k, S, B, rfl, _⟩ := h
    rfl
  · obtain ⟨a, t, W, ns, kk, S, Bf, rfl, ha, ht, hM, k⟩ := h
    have ha0 := ha
    obtain ⟨a, vb, vr, ve, rfl, w1, tb, tr, te⟩ := ha.w_inv
    obtain ⟨ra, rx, rfl, tr1, tr2⟩ := tr.tup_inv
    have lr : rx.length = W.rules.length := by rw [tr2.len, List.length_map]
    refine ⟨_, pss_cons (ps_setLc (i := 2) (own := [("state", 3), ("row", 4)]) (g := gTup K 2 (gCons (gName 3) (gCons (gName 4) gNil))) (tt := tYes) (by rfl) sc_lmark.nd rfl rfl (sw_true rfl rfl rfl (by decide +kernel)) (ET.pi_enumT rfl Be (pa_cons (pe_ix ix_tup (pv 0) pe_int (fun _ _ => rfl)) pa_nil)) (blkOk_by (own := [("state", 3), ("row", 4)]) (N := nLMark) (sc := fnScope st_law_marked) (by decide +kernel))
        (fun _ _ _ _ _ => pg_tupK K rfl (pgs_cons (pg_name (i := 3) sc_lmark.nd rfl (Or.inl rfl)) (pgs_cons (pg_name (i := 4) sc_lmark.nd rfl (Or.inl rfl)) pgs_nil))) (fun _ _ _ _ _ => pts_nil)
        (fun _ _ _ _ _ => pe_op (op_catAK K) (pv 4) (pe_tup (pa_cons (pe_c Ce hr (by decide) (by rfl) (pa_cons (pv 0) (pa_cons (pv 3) (pa_cons (pv 1) pa_nil)))) pa_nil))))
      (pss_one (ps_ret (pe_tup (pa_cons (pe_ix ix_tup (pv 0) pe_int (fun _ _ => rfl)) (pa_cons (pe_callTy call_tuple_of (by rfl) B.tuple (by decide +kernel) (pa_cons (pv 2) pa_nil)) (pa_cons (pe_ix ix_tup (pv 0) pe_int (fun _ _ => rfl)) pa_nil)))))), ?_⟩
    have tb0 := tb
    have te0 := te
    refine ⟨_, rfl, a, _, _, _, rfl, rfl, SqT.of w1, atI_nat (j := 1) rfl, ra, rx, rfl, SqT.of tr1, fun D hD => ?_⟩
    refine walk_enumT (K := K) (a := ra) (xs := rx) (fun i H' => Same H H' ∧ LAt H' D (((markW W ns).rules.take i).map rowD)) ⟨same_new hD, [], upd_same, .nil⟩ (fun i H' h => SqT.of (h.1 _ _ tr1)) ?_ ?_
    · rintro i x T H1 hi ⟨s1, us, hu, au⟩ hT
      have ilt : i < W.rules.length := by
        have q := (List.getElem?_eq_some_iff.mp hi).1
        omega
      obtain ⟨x', hx', tx⟩ := tr2.at (List.getElem?_eq_getElem ilt)
      rw [hi] at hx'
      cases hx'
      have iS : i < S := by rw [← hM.wt.r1]; exact ilt
      have hrow : (markW W ns).rules[i]? = some (W.rules[i] ++ [entW W i ns]) := by
        show ((List.range W.rules.length).map fun i => W.rules.getD i [] ++ [entW W i ns])[i]? = _
        rw [List.getElem?_map, List.getElem?_range ilt]
        show some (W.rules.getD i [] ++ _) = _
        rw [List.getD_eq_getElem?_getD, List.getElem?_eq_getElem ilt]
        rfl
      have rl := (hM.sz.r3 _ (List.mem_of_getElem? hrow)).1
      rw [List.length_append, List.length_singleton] at rl
      have few := hM.sz.r2
      generalize W.rules[i] = row at tx hrow rl
      have sT := same_new (o := .tup [V.int (i : Nat), x]) hT
      have s2 := Same.trans s1 sT
      have hTT : upd H1 T (.tup [V.int (i : Nat), x]) T = some (.tup [V.int (i : Nat), x]) := upd_same
      have hu2 := sT _ _ hu
      have au2 := au.mono (Same.tk sT)
      generalize upd H1 T (.tup [V.int (i : Nat), x]) = H2 at s2 hTT hu2 au2 ⊢
      refine ⟨T, _, rfl, SqT.of hTT, rfl, _, _, rfl, _, _, rfl, rfl, rfl, ?_⟩
      refine ⟨_, rfl, _, rfl, _, rfl, _, rfl, .ref a, t, i, W, ns, kk, S, Bf, rfl, ha0.mono (Same.tk s2), ht.mono (Same.tk s2), hM.wt, iS, hM.hn, hM.len, hM.fit i iS, fun v H3 s3 tv => ⟨(by show 1 ≤ sizeLine; decide), fun q hq => ?_⟩⟩
      have sq := same_new (o := .tup [v]) hq
      have s23 := Same.trans s2 (Same.trans s3 sq)
      refine cat_tp (ds := row.map entD) (es := [entD (entW W i ns)]) (tx.mono (Same.tk s23)) (.tup upd_same (.cons (tv.mono (Same.tk sq)) .nil)) (by rw [List.length_map]; omega) (by show 1 ≤ 10000; decide) fun v2 H4 s4 tv2 => ?_
      have s24 := Same.trans (Same.trans s3 sq) s4
      refine ⟨us, s24 _ _ hu2, ?_, Same.put (Same.trans s2 s24) hD, ?_⟩
      · rw [au2.len, List.length_map, List.length_take]
        exact Nat.lt_of_le_of_lt (Nat.le_trans (Nat.min_le_right _ _) few) (by decide)
      · rw [take_map_more hrow]
        refine LAt.push (s24 _ _ hu2) (au2.mono (Same.tk s24)) ?_
        unfold rowD
        rw [List.map_append]
        exact tv2
    · rintro H1 ⟨s1, us, hu, au⟩
      have ml : (markW W ns).rules.length = rx.length := by
        show ((List.range W.rules.length).map fun i => W.rules.getD i [] ++ [entW W i ns]).length = _
        rw [List.length_map, List.length_range, lr]
      rw [← ml, List.take_length] at au
      refine ⟨_, rfl, a, _, _, _, rfl, rfl, SqT.of (s1 _ _ w1), atI_nat (j := 0) rfl, _, rfl, D, us, rfl, .inl ⟨SqL.of hu, fun rt hrt => ?_⟩⟩
      have sr := same_new (o := .tup us) hrt
      refine ⟨_, rfl, a, _, _, _, rfl, rfl, SqT.of (sr _ _ (s1 _ _ w1)), atI_nat (j := 2) rfl, (by show 3 ≤ sizeLine; decide), fun q hq => ?_⟩
      have s2 := Same.trans sr (same_new (o := .tup [vb, .ref rt, ve]) hq)
      have s12 := Same.trans s1 s2
      exact k _ _ s12 (.tup upd_same (.cons (tb0.mono (Same.tk s12)) (.cons (.tup ((tk_new hq) _ _ upd_same) (au.mono (Same.tk s2))) (.cons (te0.mono (Same.tk s12)) .nil))))
theorem cal_unm (F : C8.Def K mg "_law_unmarked" st_law_unmarked f fd) (b : Binds K fd ["word", "mark", "other"] []) : Cal P w K mg base 1 "_law_unmarked" spUnm [] := by
  refine cal0 F b .nil sc_unm (fun vs H Q E h => ?_) (fun cdv A outer s H vs Q E hr h => ?_)
  · obtain ⟨t, o, k, so, ns, rfl, _⟩ := h
    rfl
  · obtain ⟨t, o, kk, so, ns, rfl, ht, ho, l1, l2, k⟩ := h
    obtain ⟨t, rfl, ht1⟩ := ht.word_inv
    refine ⟨_, pss_cons (ps_set (i := 3) sc_unm.nd rfl (Or.inl rfl) (pe_tup pa_nil))
      (pss_cons (ps_for PassesOwn.never rfl (pi_tup (pv 0)) (pg_name (i := 4) sc_unm.nd rfl (Or.inl rfl))
        (pss_one (ps_set (i := 3) sc_unm.nd rfl (Or.inl rfl) (pe_op op_catA (pv 3) (pe_ifExp (pt_cmpR op_eq (pv 4) (pv 1) (nomark _)) (pv 2) (pe_tup (pa_cons (pv 4) pa_nil)))))))
      (pss_one (ps_ret (pv 3)))), ?_⟩
    refine ⟨Nat.zero_le _, fun e0 he0 => ?_⟩
    have s0 := same_new (o := .tup []) he0
    have few : ∀ i, (unm kk ns (so.take i)).length ≤ 50 * 51 := fun i => by
      have e : ∀ l : List Nat, (unm kk ns l).length ≤ 51 * l.length := by
        intro l
        induction l with
        | nil => exact Nat.zero_le _
        | cons x l ih =>
          have h1 : ((if x = kk then ns else [x]) : List Nat).length ≤ 51 := by
            by_cases c : x = kk
            · rw [if_pos c]; omega
            · rw [if_neg c]; show 1 ≤ 51; decide
          unfold unm at ih ⊢
          rw [List.flatMap_cons, List.length_append, List.length_cons, Nat.mul_succ]
          omega
      have a1 := e (so.take i)
      have a2 : (so.take i).length ≤ 50 := by rw [List.length_take]; omega
      omega
    refine ⟨_, rfl, t, rfl, ⟨_, SqT.of (s0 _ _ ht1)⟩, for_tup (K := K) (a := t) (xs := (iN so).map V.int) (fun i σ H' => Same H H' ∧ ∃ (fv : V) (v4 : Option V), σ = [some (.ref t), some (.int kk), some o, some fv, v4] ∧ Tp H' fv (wordD (unm kk ns (so.take i)))) ⟨s0, .ref e0, _, rfl, .tup upd_same .nil⟩ (fun i σ H' _ h => SqT.of (h.1 _ _ ht1)) ?_ ?_⟩
    · rintro i x σ H1 hi ⟨s1, fv, v4, rfl, tf⟩
      obtain ⟨kd, hkd, rfl⟩ : ∃ kd, so[i]? = some kd ∧ x = V.int (kd : Nat) := by
        unfold iN at hi
        rw [List.map_map, List.getElem?_map] at hi
        cases e : so[i]? with
        | none =>
          rw [e] at hi
          cases hi
        | some y =>
          rw [e] at hi
          exact ⟨y, rfl, (Option.some.inj hi).symm⟩
      have more : unm kk ns (so.take (i + 1)) = unm kk ns (so.take i) ++ (if kd = kk then ns else [kd]) := by
        unfold unm
        rw [List.take_add_one, hkd, List.flatMap_append]
        show _ ++ [kd].flatMap _ = _
        rw [List.flatMap_cons, List.flatMap_nil, List.append_nil]
      have lenW : ∀ l : List Nat, ((iN l).map PyData.int).length = l.length := fun l => by
        unfold iN
        rw [List.length_map, List.length_map]
      have done : ∀ (y : V) (H2 : Hp), Same H1 H2 → Tp H2 y (wordD (if kd = kk then ns else [kd])) → rCatA K fv y H2 (fun z H' => Same H H' ∧ ∃ (fv' : V) (v4 : Option V), ([some (.ref t), some (.int kk), some o, some z, some (.int (kd : Nat))] : L2.St) = [some (.ref t), some (.int kk), some o, some fv', v4] ∧ Tp H' fv' (wordD (unm kk ns (so.take (i + 1))))) := fun y H2 s2 ty => by
        refine cat_tp (ds := (iN (unm kk ns (so.take i))).map .int) (es := (iN (if kd = kk then ns else [kd])).map .int) (tf.mono (Same.tk s2)) ty (by rw [lenW]; exact Nat.le_trans (few i) (by decide)) (by rw [lenW]; split; exact Nat.le_trans l2 (by decide); show 1 ≤ 10000; decide) fun v H3 s3 tv => ⟨Same.trans (Same.trans s1 s2) s3, v, _, rfl, ?_⟩
        rw [more]
        unfold wordD iN
        rw [List.map_append, List.map_append]
        exact tv
      refine ⟨_, rfl, _, rfl, _, rfl, rfl, _, rfl, ?_⟩
      by_cases c : kd = kk
      · rw [if_pos c] at done
        refine iteT' (decide_eq_true (by rw [c])) ⟨_, rfl, done _ _ (Same.refl _) (ho.mono (Same.tk s1))⟩
      · rw [if_neg c] at done
        refine iteF' (decide_eq_false (fun z => c (by injection z with z; omega))) ⟨_, rfl, (by show 1 ≤ sizeLine; decide), fun p hp => done _ _ (same_new hp) (.tup upd_same (.cons (.int _) .nil))⟩
    · rintro σ H1 ⟨s1, fv, v4, rfl, tf⟩
      have lw : ((iN so).map V.int).length = so.length := by
        unfold iN
        rw [List.length_map, List.length_map]
      rw [lw, List.take_length] at tf
      exact ⟨_, rfl, k _ _ s1 tf⟩
theorem cal_limit {C : Addr} (L : LimT K mg C) (F : C8.Def K mg "_law_limit" st_law_limit f fd) (b : Binds K fd ["writer", "word"] []) (Cm : CalX P w K mg base 5 "marked" (spMarked C)) : Cal P w K mg base 6 "_law_limit" spLimit [] := by
  refine cal0 F b .nil sc_limit (fun vs H Q E h => ?_) (fun cdv A outer s H vs Q E hr h => ?_)
  · obtain ⟨a, t, W, ns, k, S, B, rfl, _⟩ := h
    rfl
  · obtain ⟨a, t, W, ns, kk, S, Bf, rfl, ha, ht, hM, k⟩ := h
    refine ⟨_, pss_cons (ps_try_as (i := 3) (tb := fun W => tAsg (tCallS (spMarked C) (WE W) (tCons (tVar 0) (tCons (tVar 1) tNil))) (gName 2)) (ts := fun a cls d => tRet (tXf a cls d C "limit" (tVar 3))) (Wout := fun _ _ _ _ => False) rfl rfl sc_limit.nd rfl rfl ⟨rfl, by decide, .inl L.gC⟩ takes0
        (fun W pn xe tk _ => pss_one (ps_set (i := 2) sc_limit.nd rfl (Or.inl rfl) (pe_xS Cm hr (by decide) tk (by rfl) (pa_cons (pv 0) (pa_cons (pv 1) pa_nil)))))
        (fun a oe cls d pn hz hf => pss_one (ps_ret (pe_xf L.xf L.no hz hf (pv 3)))))
      (pss_one (ps_ret pe_non)), ?_⟩
    refine ⟨_, rfl, _, rfl, a, t, W, ns, kk, S, Bf, rfl, ha, ht, hM, fun m hm hle => ⟨fun c v H1 s1 tv => ?_, fun c H1 s1 d H2 hd s2 hx => ?_⟩⟩
    · have q := k m hm hle H1 s1
      unfold limV at q
      rw [if_pos c] at q
      exact q
    · have q := k m hm hle H2 (Same.trans s1 s2)
      unfold limV at q
      rw [if_neg (by omega)] at q
      refine ⟨true, L.ee, fun _ a0 _ => ?_, fun z => Bool.noConfusion z⟩
      exact ⟨_, rfl, rfl, rfl, d, _, .int 240, rfl, hx, rfl, q⟩
end

/-! ### drawn writers: what a word does stays small -/
theorem bufs_flat : ∀ rs : List Rc, bufs rs.flatten = rs.flatMap bufs
  | [] => rfl
  | r :: rs => by rw [List.flatten_cons, bufs_app, List.flatMap_cons, bufs_flat rs]
theorem lets_flatE : ∀ rs : List Rc, lets rs.flatten = (rs.map lets).sum
  | [] => rfl
  | r :: rs => by rw [List.flatten_cons, lets_app, List.map_cons, List.sum_cons, lets_flatE rs]
def gB (fl : List Rc) (i : Nat) : List Nat := bufs (fl.getD i [])
def gL (fl : List Rc) (i : Nat) : Nat := lets (fl.getD i [])
theorem putR_sums (fl : List Rc) : ∀ r : Rc, (r.map (putR fl)).flatMap bufs = (bufs r).flatMap (gB fl) ∧ ((r.map (putR fl)).map lets).sum = lets r + ((bufs r).map (gL fl)).sum
  | [] => ⟨rfl, rfl⟩
  | q :: r => by
    obtain ⟨h1, h2⟩ := putR_sums fl r
    have e : q :: r = [q] ++ r := rfl
    rw [List.map_cons, List.flatMap_cons, List.map_cons, List.sum_cons, h1, h2, e, bufs_app, lets_app, lets_one, bufs_one, List.flatMap_append, List.map_append, List.sum_append]
    cases q with
    | s z =>
      refine ⟨rfl, ?_⟩
      show lets [Pt.s z] + (lets r + _) = z.length + lets r + (0 + _)
      rw [lets_one]
      show z.length + (lets r + _) = _
      omega
    | b i =>
      refine ⟨?_, ?_⟩
      · show gB fl i ++ _ = [i].flatMap (gB fl) ++ _
        rw [List.flatMap_cons, List.flatMap_nil, List.append_nil]
      · show gL fl i + (lets r + _) = 0 + lets r + ((gL fl i + 0) + _)
        omega
theorem put_bufs (fl : List Rc) (r : Rc) : bufs (put fl r) = (bufs r).flatMap (gB fl) := by
  obtain ⟨n1, _⟩ := normal_ok (r.map (putR fl)).flatten []
  have e : bufs (put fl r) = [] ++ bufs (r.map (putR fl)).flatten := n1
  rw [e, List.nil_append, bufs_flat]
  exact (putR_sums fl r).1
theorem put_lets (fl : List Rc) (r : Rc) : lets (put fl r) = lets r + ((bufs r).map (gL fl)).sum := by
  obtain ⟨_, n2, _⟩ := normal_ok (r.map (putR fl)).flatten []
  have e : lets (put fl r) = 0 + lets (r.map (putR fl)).flatten := n2
  rw [e, Nat.zero_add, lets_flatE]
  exact (putR_sums fl r).2
theorem puts_bufs (fl : List Rc) : ∀ fs : List Rc, (fs.map (put fl)).flatMap bufs = (fs.flatMap bufs).flatMap (gB fl)
  | [] => rfl
  | r :: fs => by rw [List.map_cons, List.flatMap_cons, puts_bufs fl fs, put_bufs, List.flatMap_cons, List.flatMap_append]
theorem puts_lets (fl : List Rc) : ∀ fs : List Rc, letF (fs.map (put fl)) = letF fs + ((fs.flatMap bufs).map (gL fl)).sum
  | [] => rfl
  | r :: fs => by
    have ih := puts_lets fl fs
    unfold letF at ih ⊢
    rw [List.map_cons, List.map_cons, List.sum_cons, ih, put_lets, List.flatMap_cons, List.map_append, List.sum_append, List.map_cons, List.sum_cons]
    omega
theorem range_gB (fl : List Rc) : (List.range fl.length).flatMap (gB fl) = fl.flatMap bufs := by
  have e : (List.range fl.length).map (fun i => fl.getD i []) = fl := by
    refine List.ext_getElem? fun i => ?_
    rw [List.getElem?_map]
    by_cases h : i < fl.length
    · rw [List.getElem?_range h, List.getElem?_eq_getElem h]
      show some (fl.getD i []) = _
      rw [List.getD_eq_getElem?_getD, List.getElem?_eq_getElem h]
      rfl
    · rw [List.getElem?_eq_none (by rw [List.length_range]; omega), List.getElem?_eq_none (by omega)]
      rfl
  have z : (List.range fl.length).flatMap (gB fl) = ((List.range fl.length).map (fun i => fl.getD i [])).flatMap bufs := by
    rw [List.flatMap_map]
    rfl
  rw [z, e]
theorem range_gL (fl : List Rc) : ((List.range fl.length).map (gL fl)).sum = letF fl := by
  have e : (List.range fl.length).map (gL fl) = fl.map lets := by
    refine List.ext_getElem? fun i => ?_
    rw [List.getElem?_map, List.getElem?_map]
    by_cases h : i < fl.length
    · rw [List.getElem?_range h, List.getElem?_eq_getElem h]
      show some (lets (fl.getD i [])) = _
      rw [List.getD_eq_getElem?_getD, List.getElem?_eq_getElem h]
      rfl
    · rw [List.getElem?_eq_none (by rw [List.length_range]; omega), List.getElem?_eq_none (by omega)]
      rfl
  rw [e]
  rfl
/-- some of the first numbers, each once: with the others they are all -/
theorem part_perm {n : Nat} {l : List Nat} (nd : l.Nodup) (h : ∀ i ∈ l, i < n) : ∃ l', (l ++ l').Perm (List.range n) := by
  refine ⟨(List.range n).filter fun i => !decide (i ∈ l), (List.perm_ext_iff_of_nodup (List.nodup_append.mpr ⟨nd, List.Nodup.sublist List.filter_sublist List.nodup_range, fun a ha b hb e => ?_⟩) List.nodup_range).mpr fun i => ?_⟩
  · have q := (List.mem_filter.mp hb).2
    rw [← e] at q
    rw [decide_eq_true ha] at q
    cases q
  · rw [List.mem_append, List.mem_range]
    refine ⟨fun q => ?_, fun q => ?_⟩
    · rcases q with q | q
      · exact h i q
      · exact List.mem_range.mp (List.mem_filter.mp q).1
    · by_cases c : i ∈ l
      · exact .inl c
      · exact .inr (List.mem_filter.mpr ⟨List.mem_range.mpr q, by rw [decide_eq_false c]; rfl⟩)
theorem flat_nd {fl : List Rc} (nd : (fl.flatMap bufs).Nodup) {l : List Nat} (hl : l.Nodup) (h : ∀ i ∈ l, i < fl.length) : (l.flatMap (gB fl)).Nodup := by
  obtain ⟨l', p⟩ := part_perm hl h
  have q := p.flatMap_right (gB fl)
  rw [range_gB, List.flatMap_append] at q
  exact (List.nodup_append.mp (q.nodup_iff.mpr nd)).1
theorem nd_len {n : Nat} {l : List Nat} (nd : l.Nodup) (h : ∀ i ∈ l, i < n) : l.length ≤ n := by
  obtain ⟨l', p⟩ := part_perm nd h
  have q := p.length_eq
  rw [List.length_append, List.length_range] at q
  omega
theorem nd_one {fs : List Rc} (nd : (fs.flatMap bufs).Nodup) {r : Rc} (hr : r ∈ fs) : (bufs r).Nodup := by
  obtain ⟨a, b, rfl⟩ := List.append_of_mem hr
  rw [List.flatMap_append, List.flatMap_cons] at nd
  exact (List.nodup_append.mp (List.nodup_append.mp nd).2.1).1
/-- a state and recipes: each buffer at most once, few letters together -/
structure EB (S B M : Nat) (st : Nat) (fl : List Rc) : Prop where
  st : st < S
  len : fl.length = B
  nd : (fl.flatMap bufs).Nodup
  lt : ∀ i ∈ fl.flatMap bufs, i < B
  low : ∀ r ∈ fl, lowR r
  ne : ∀ r ∈ fl, NE r
  few : ∀ r ∈ fl, r.length ≤ 7
  lets : letF fl ≤ M
theorem own_bufs (B : Nat) : (ownF B).flatMap bufs = List.range B := by
  unfold ownF
  rw [List.flatMap_map]
  have e : (fun i => bufs [Pt.b i]) = fun i => [i] := funext fun i => bufs_one (.b i)
  have z : ∀ l : List Nat, l.flatMap (fun i => bufs [Pt.b i]) = l := by
    intro l
    rw [e]
    induction l with
    | nil => rfl
    | cons x l ih => rw [List.flatMap_cons, ih]; rfl
  exact z _
theorem eb_own {S B st : Nat} (h : st < S) : EB S B 0 st (ownF B) := by
  have mem : ∀ r ∈ ownF B, ∃ i, r = [Pt.b i] := fun r hr => by
    obtain ⟨i, _, rfl⟩ := List.mem_map.mp hr
    exact ⟨i, rfl⟩
  refine ⟨h, by unfold ownF; rw [List.length_map, List.length_range], by rw [own_bufs]; exact List.nodup_range, fun i hi => by rw [own_bufs] at hi; exact List.mem_range.mp hi, fun r hr => ?_, fun r hr => ?_, fun r hr => ?_, ?_⟩
  · obtain ⟨i, rfl⟩ := mem r hr
    exact lowR_one True.intro
  · obtain ⟨i, rfl⟩ := mem r hr
    intro z hz
    cases List.mem_singleton.mp hz
  · obtain ⟨i, rfl⟩ := mem r hr
    show 1 ≤ 7
    decide
  · have z : ∀ l : List Nat, letF (l.map fun i => [Pt.b i]) = 0 := by
      intro l
      induction l with
      | nil => rfl
      | cons x l ih =>
        unfold letF at ih ⊢
        rw [List.map_cons, List.map_cons, List.sum_cons, ih]
        rfl
    exact Nat.le_of_eq (z _)
theorem letF_le {fs : List Rc} {n : Nat} (h : ∀ r ∈ fs, Toy.lets r ≤ n) : letF fs ≤ n * fs.length := lets_all fs h
theorem letF_mem {fl : List Rc} {r : Rc} (h : r ∈ fl) : lets r ≤ letF fl := by
  unfold letF
  induction fl with
  | nil => cases h
  | cons x l ih =>
    rw [List.map_cons, List.sum_cons]
    rcases List.mem_cons.mp h with rfl | h
    · omega
    · have := ih h
      omega
theorem eb_step {S B M st t : Nat} {fl fs : List Rc} (h : EB S B M st fl) (ht : t < S) (hf : FOk B fs) (hT : ∀ r ∈ fs, TR r) (hB : B ≤ 3) : EB S B (M + 18) t (fs.map (put fl)) := by
  have inB : ∀ i ∈ fs.flatMap bufs, i < fl.length := fun i hi => by rw [h.len]; exact hf.lt i hi
  have nd : ((fs.map (put fl)).flatMap bufs).Nodup := by
    rw [puts_bufs]
    exact flat_nd h.nd hf.nd inB
  have lt : ∀ i ∈ (fs.map (put fl)).flatMap bufs, i < B := fun i hi => by
    rw [puts_bufs] at hi
    obtain ⟨j, hj, hi⟩ := List.mem_flatMap.mp hi
    exact h.lt i (List.mem_flatMap.mpr ⟨_, getD_mem (inB j hj), hi⟩)
  refine ⟨ht, by rw [List.length_map]; exact hf.len, nd, lt, fun y hy => ?_, fun y hy => ?_, fun y hy => ?_, ?_⟩
  · obtain ⟨r, hr, rfl⟩ := List.mem_map.mp hy
    obtain ⟨_, _, _, n4⟩ := normal_ok (r.map (putR fl)).flatten []
    refine n4 (fun q hq => by cases hq) fun q hq => ?_
    obtain ⟨x, hx, hq⟩ := List.mem_flatten.mp hq
    obtain ⟨p, hp, rfl⟩ := List.mem_map.mp hx
    cases p with
    | s z =>
      rw [List.mem_singleton.mp hq]
      exact (hf.each r hr).low _ hp
    | b i => exact h.low _ (getD_mem (inB i (List.mem_flatMap.mpr ⟨r, hr, List.mem_flatMap.mpr ⟨_, hp, List.mem_singleton.mpr rfl⟩⟩))) q hq
  · obtain ⟨r, hr, rfl⟩ := List.mem_map.mp hy
    exact (normal_nm _).ne
  · have n1 := nd_one nd hy
    have n2 := nd_len n1 fun i hi => lt i (List.mem_flatMap.mpr ⟨y, hy, hi⟩)
    obtain ⟨r, hr, rfl⟩ := List.mem_map.mp hy
    have q : Alt (put fl r) := alt_normal _
    unfold Alt at q
    have := lastS_le (put fl r)
    omega
  · rw [puts_lets]
    have a1 := letF_le (n := 6) fun r hr => (hT r hr).1
    have a2 : ((fs.flatMap bufs).map (gL fl)).sum ≤ ((List.range fl.length).map (gL fl)).sum := sub_sum _ _ hf.nd fun i hi => List.mem_range.mpr (inB i hi)
    rw [range_gL] at a2
    have a3 := h.lets
    have a4 := hf.len
    have a5 : 6 * fs.length ≤ 18 := by rw [a4]; omega
    omega
def EBo (S B M : Nat) : Option (Nat × List Rc) → Prop
  | none => True
  | some (st, fl) => EB S B M st fl
theorem eb_fold {k S B : Nat} {W : Wr} (h : WOk k S B W) (hT : TightF W) (hB : B ≤ 3) : ∀ (ns : List Nat) (M : Nat) (o : Option (Nat × List Rc)), (∀ i ∈ ns, i < k) → EBo S B M o → EBo S B (M + 18 * ns.length) (ns.foldl (stepE W) o)
  | [], M, o, _, ho => by rw [List.length_nil, Nat.mul_zero, Nat.add_zero]; exact ho
  | x :: r, M, o, hn, ho => by
    have e : M + 18 * (x :: r).length = M + 18 + 18 * r.length := by rw [List.length_cons, Nat.mul_succ]; omega
    rw [e, List.foldl_cons]
    refine eb_fold h hT hB r (M + 18) _ (fun i hi => hn i (List.mem_cons_of_mem _ hi)) ?_
    cases o with
    | none => exact True.intro
    | some s =>
      obtain ⟨st, fl⟩ := s
      have hs : EB S B M st fl := ho
      have h1 : st < W.rules.length := by rw [h.r1]; exact hs.st
      obtain ⟨l, q⟩ := h.r2 _ (List.getElem_mem h1)
      have h2 : x < (W.rules[st]).length := by rw [l]; exact hn x List.mem_cons_self
      have e2 : (W.rules.getD st []).getD x none = (W.rules[st])[x] := by
        rw [List.getD_eq_getElem?_getD, List.getD_eq_getElem?_getD, List.getElem?_eq_getElem h1, Option.getD_some, List.getElem?_eq_getElem h2, Option.getD_some]
      have e3 : stepE W (some (st, fl)) x = stepT fl (W.rules[st])[x] := congrArg (stepT fl) e2
      rw [e3]
      have ok := q _ (List.getElem_mem h2)
      have tr := hT _ (List.getElem_mem h1) _ (List.getElem_mem h2)
      cases he : (W.rules[st])[x] with
      | none => exact True.intro
      | some y =>
        obtain ⟨t, fs⟩ := y
        obtain ⟨g1, g2⟩ := ok t fs he
        exact eb_step hs g1 g2 (tr t fs he) hB

theorem neat_texts : ∀ {ts : List Str}, lowT ts → NeatAll 0 (tot ts + ts.length) (ts.map .str)
  | [], _ => neatAll_nil
  | z :: r, h => by
    have a := neat_texts (ts := r) fun y hy => h y (List.mem_cons_of_mem _ hy)
    have b := NeatAll.cons (neat_str (low_strOk (h z List.mem_cons_self))) a
    refine b.le (Nat.le_refl _) ?_
    unfold tot
    rw [List.map_cons, List.sum_cons, List.length_cons]
    omega
theorem neat_txt {k S B : Nat} {W : Wr} (h : WOkB k S B W) (hS : 1 ≤ S) (hB : B ≤ 3) {ns : List Nat} (hns : ∀ i ∈ ns, i < k) (hl : ns.length ≤ 30) : Neat 0 700000 (txtD (tellW W ns)) := by
  cases er : runW W ns with
  | none =>
    rw [tell_none er]
    exact neat_none.le (by decide) (by decide)
  | some o =>
    obtain ⟨st, ts⟩ := o
    have so := run_ok h hS hns st ts er
    obtain ⟨e, e1, e2, e3⟩ := end_at h so.st
    rw [tell_some er, e2]
    cases e with
    | none => exact neat_none.le (by decide) (by decide)
    | some r =>
      have q := e3 r rfl
      refine (neat_str (low_strOk (mk_low so.low q.ok.low))).le (Nat.le_refl _) ?_
      have a := mk_end q so.len
      have b := so.tot
      have c := bound9 hB hl
      show (mk ts r).length ≤ 700000
      omega

/-! ### a drawn writer with a kind more: its bounds, its text -/
theorem mark_new {W : Wr} {ns : List Nat} {row : List (Option (Nat × List Rc))} (h : row ∈ (markW W ns).rules) : ∃ i row0, i < W.rules.length ∧ row0 ∈ W.rules ∧ row = row0 ++ [entW W i ns] := by
  obtain ⟨i, hi, rfl⟩ := List.mem_map.mp h
  have hi := List.mem_range.mp hi
  refine ⟨i, W.rules[i], hi, List.getElem_mem hi, ?_⟩
  rw [List.getD_eq_getElem?_getD, List.getElem?_eq_getElem hi]
  rfl
theorem ent_eb {k S B : Nat} {W : Wr} (h : WOk k S B W) (hT : TightF W) (hB : B ≤ 3) {ns : List Nat} (hn : ∀ i ∈ ns, i < k) (hl : ns.length ≤ 4) {i : Nat} (hi : i < S) : EBo S B 72 (entW W i ns) := by
  have q := eb_fold h hT hB ns 0 (some (i, ownF W.begins.length)) hn (by rw [h.b1]; exact eb_own hi)
  have le : 0 + 18 * ns.length ≤ 72 := by omega
  unfold entW
  cases e : ns.foldl (stepE W) (some (i, ownF W.begins.length)) with
  | none => exact True.intro
  | some s =>
    obtain ⟨st, fl⟩ := s
    rw [e] at q
    have z : EB S B (0 + 18 * ns.length) st fl := q
    exact ⟨z.st, z.len, z.nd, z.lt, z.low, z.ne, z.few, Nat.le_trans z.lets le⟩
theorem mark_big {k S B : Nat} {W : Wr} (h : WOk k S B W) (hT : TightF W) (hB : B ≤ 3) {ns : List Nat} (hn : ∀ i ∈ ns, i < k) (hl : ns.length ≤ 4) : WOkB (k + 1) S B (markW W ns) := by
  refine ⟨h.b1, h.b2, by show ((List.range _).map _).length = S; rw [List.length_map, List.length_range]; exact h.r1, fun row hrow => ?_, h.e1, h.big.e2⟩
  obtain ⟨i, row0, hi, hr0, rfl⟩ := mark_new hrow
  obtain ⟨l, q⟩ := h.big.r2 _ hr0
  refine ⟨by rw [List.length_append, l]; rfl, fun e he => ?_⟩
  rcases List.mem_append.mp he with he | he
  · exact q e he
  · rw [List.mem_singleton.mp he]
    intro t fs e2
    have z := ent_eb h hT hB hn hl (i := i) (by rw [← h.r1]; exact hi)
    rw [e2] at z
    have eb : EB S B 72 t fs := z
    refine ⟨eb.st, eb.len, eb.nd, eb.lt, fun r hr => ⟨?_, eb.low r hr, Nat.le_trans (eb.few r hr) (by decide)⟩⟩
    have := letF_mem hr
    have := eb.lets
    omega
/-- recipes of few letters and parts -/
theorem neat_rcS {r : Rc} {n : Nat} (h1 : lets r ≤ 72) (h2 : lowR r) (h3 : r.length ≤ 7) (hb : ∀ i ∈ bufs r, i < n) (hn : n ≤ 1000) : Neat 1 511 r.d := by
  have e : NeatAll 0 (r.length * (72 + 1)) (r.map Pt.d) := neatAll_map fun q hq => by
    cases q with
    | s z =>
      have a := part_len hq
      exact (neat_str (low_strOk (h2 _ hq))).le (Nat.le_refl _) (by omega)
    | b i =>
      have := hb i (List.mem_flatMap.mpr ⟨_, hq, List.mem_singleton.mpr rfl⟩)
      exact (neat_int (by omega)).le (Nat.le_refl _) (by omega)
  exact (e.tup).le (Nat.le_refl _) (by omega)
theorem neat_entS {S B : Nat} {e : Option (Nat × List Rc)} (h : EBo S B 72 e) (hS : S ≤ 12) (hB : B ≤ 3) : Neat 3 1700 (entD e) := by
  cases e with
  | none => exact neat_none.le (by decide) (by decide)
  | some x =>
    obtain ⟨t, fs⟩ := x
    have eb : EB S B 72 t fs := h
    have a : NeatAll 1 (fs.length * (511 + 1)) (fs.map Rc.d) := neatAll_map fun r hr => neat_rcS (by have := letF_mem hr; have := eb.lets; omega) (eb.low r hr) (eb.few r hr) (flat_lt eb.lt hr) (by omega)
    have b : NeatAll 2 _ [.int (t : Int), fillsD fs] := NeatAll.cons ((neat_int (i := (t : Int)) (by have := eb.st; omega)).le (by decide) (Nat.le_refl _)) (NeatAll.cons a.tup neatAll_nil)
    have l := eb.len
    exact b.tup.le (Nat.le_refl _) (by omega)
theorem neat_mark {k S B : Nat} {W : Wr} (h : WOk k S B W) (hT : TightF W) (hk : k ≤ 4) (hS : S ≤ 12) (hB : B ≤ 3) {ns : List Nat} (hn : ∀ i ∈ ns, i < k) (hl : ns.length ≤ 4) : Neat 6 80000 (markW W ns).d := by
  have a : NeatAll 0 (W.begins.length * (2 + 1)) (W.begins.map .str) := neatAll_map fun z hz => (neat_str (low_strOk (h.b2 z hz).low)).le (Nat.le_refl _) (h.b2 z hz).len
  have ml : (markW W ns).rules.length = S := (mark_big h hT hB hn hl).r1
  have b : NeatAll 4 ((markW W ns).rules.length * (5000 + 1)) ((markW W ns).rules.map rowD) := neatAll_map fun row hrow => by
    obtain ⟨i, row0, hi, hr0, rfl⟩ := mark_new hrow
    obtain ⟨r1, r2⟩ := h.r2 row0 hr0
    have c : NeatAll 3 (row0.length * (700 + 1)) (row0.map entD) := neatAll_map fun e he => neat_ent (r2 e he) hS hB
    have d := neat_entS (ent_eb h hT hB hn hl (i := i) (by rw [← h.r1]; exact hi)) hS hB
    have all : NeatAll 3 (row0.length * (700 + 1) + (1700 + 1)) ((row0 ++ [entW W i ns]).map entD) := by
      rw [List.map_append]
      have app : ∀ {xs : List PyData} {n : Nat}, NeatAll 3 n xs → NeatAll 3 (n + (1700 + 1)) (xs ++ [entD (entW W i ns)]) := by
        intro xs n hx
        induction xs generalizing n with
        | nil => exact (NeatAll.cons d neatAll_nil).le (Nat.le_refl _) (by omega)
        | cons x xs ih =>
          obtain ⟨l1, l2, l3, l4, l5⟩ := hx
          simp only [PyData.canLayAll0, PyData.showableAll, PyData.intsShortAll, PyData.depthAll, PyData.weightAll, Bool.and_eq_true, Nat.max_le] at l1 l2 l3 l4 l5
          have y := ih (n := PyData.weightAll xs) ⟨l1.2, l2.2, l3.2, l4.2, Nat.le_refl _⟩
          have x0 : Neat 3 (PyData.weight x) x := ⟨l1.1, l2.1, l3.1, l4.1, Nat.le_refl _⟩
          exact (NeatAll.cons x0 y).le (Nat.le_refl _) (by omega)
      exact app c
    exact all.tup.le (Nat.le_refl _) (by omega)
  have c : NeatAll 1 (W.ends.length * (246 + 1)) (W.ends.map endD) := neatAll_map fun e he => by
    cases e with
    | none => exact neat_none.le (by decide) (by decide)
    | some r =>
      have q := h.e2 _ he r rfl
      exact neat_rcE q.ok q.lt (by omega)
  have all : NeatAll 5 _ [.tuple (W.begins.map .str), .tuple ((markW W ns).rules.map rowD), .tuple (W.ends.map endD)] :=
    NeatAll.cons (a.tup.le (by decide) (Nat.le_refl _)) (NeatAll.cons (b.tup.le (by decide) (Nat.le_refl _)) (NeatAll.cons (c.tup.le (by decide) (Nat.le_refl _)) neatAll_nil))
  have l1 := h.b1
  have l3 := h.e1
  exact all.tup.le (Nat.le_refl _) (by omega)
theorem drawn_mt {k S B : Nat} {W : Wr} (h : WOk k S B W) (hT : TightF W) (s1 : 1 ≤ S) (s3 : S ≤ 12) (b1 : 1 ≤ B) (b3 : B ≤ 3) (k4 : k ≤ 4) {ns : List Nat} (hn : ∀ i ∈ ns, i < k) (hl : ns.length ≤ 4) : MT k S B W ns ∧ ∀ n ∈ placesW (markW W ns), n ≤ 240 := by
  have eb : ∀ i, i < S → EBo S B 72 (entW W i ns) := fun i hi => ent_eb h hT b3 hn hl hi
  refine ⟨⟨⟨h.b1, by omega, h.r1, fun row hrow => ⟨(h.r2 row hrow).1, fun e he t fs q => ?_⟩⟩, hn, by omega, fun st hst j hj => ?_, ⟨by show 1 ≤ W.begins.length; rw [h.b1]; exact b1, by show W.begins.length ≤ 10; rw [h.b1]; omega, fun z hz => ⟨Nat.le_trans (h.b2 z hz).len (by decide), (h.b2 z hz).low⟩, ?_, ?_, fun row hrow => ?_, by show W.ends.length ≤ 20; rw [h.e1]; omega, fun e he q hq => ?_⟩, s3, b3⟩, fun n hm => ?_⟩
  · obtain ⟨g1, g2⟩ := (h.r2 row hrow).2 e he t fs q
    refine ⟨g1, g2.len, fun r hr => ?_⟩
    have z := g2.each r hr
    have t := hT row hrow e he _ _ q r hr
    exact ⟨flat_lt g2.lt hr, Nat.le_trans z.len (by decide), z.low, Nat.le_trans z.lt (by decide), t.2.2⟩
  · have q := eb_fold h hT b3 (ns.take j) 0 (some (st, ownF W.begins.length)) (fun i hi => hn i (List.mem_of_mem_take hi)) (by rw [h.b1]; exact eb_own hst)
    cases e : (ns.take j).foldl (stepE W) (some (st, ownF W.begins.length)) with
    | none => exact True.intro
    | some s =>
      obtain ⟨s', fl⟩ := s
      rw [e] at q
      have z : EB S B (0 + 18 * (ns.take j).length) s' fl := q
      have lj : (ns.take j).length ≤ 4 := by rw [List.length_take]; omega
      refine ⟨z.st, z.len, fun r hr => ⟨flat_lt z.lt hr, Nat.le_trans (z.few r hr) (by decide), z.low r hr, ?_, z.ne r hr⟩⟩
      have := letF_mem hr
      have := z.lets
      omega
  · show 1 ≤ ((List.range _).map _).length
    rw [List.length_map, List.length_range, h.r1]
    exact s1
  · show ((List.range _).map _).length ≤ 20
    rw [List.length_map, List.length_range, h.r1]
    omega
  · obtain ⟨i, row0, hi, hr0, rfl⟩ := mark_new hrow
    obtain ⟨l, q⟩ := h.r2 row0 hr0
    refine ⟨by rw [List.length_append, List.length_singleton]; omega, fun e he t fs e2 => ?_⟩
    rcases List.mem_append.mp he with he | he
    · obtain ⟨g1, g2⟩ := q e he t fs e2
      refine ⟨by omega, by rw [g2.len]; omega, fun r hr => ?_⟩
      have z := g2.each r hr
      exact ⟨Nat.le_trans z.lt (by decide), z.low, Nat.le_trans z.len (by decide), fun i hi => by have := flat_lt g2.lt hr i hi; omega⟩
    · have e3 := List.mem_singleton.mp he
      have z := eb i (by rw [← h.r1]; exact hi)
      rw [← e3, e2] at z
      have w : EB S B 72 t fs := z
      refine ⟨by have := w.st; omega, by rw [w.len]; omega, fun r hr => ⟨?_, w.low r hr, Nat.le_trans (w.few r hr) (by decide), fun i hi => by have := flat_lt w.lt hr i hi; omega⟩⟩
      have := letF_mem hr
      have := w.lets
      omega
  · have z := h.e2 e he q hq
    exact ⟨Nat.le_trans z.ok.lt (by decide), z.ok.low, Nat.le_trans z.ok.len (by decide), fun i hi => by have := z.lt i hi; omega⟩
  · unfold placesW at hm
    rcases List.mem_append.mp hm with hm | hm
    · rcases List.mem_append.mp hm with hm | hm
      · obtain ⟨z, hz, rfl⟩ := List.mem_map.mp hm
        exact Nat.le_trans (h.b2 z hz).len (by decide)
      · obtain ⟨row, hrow, hm⟩ := List.mem_flatMap.mp hm
        obtain ⟨e, he, hm⟩ := List.mem_flatMap.mp hm
        obtain ⟨i, row0, hi, hr0, rfl⟩ := mark_new hrow
        cases e with
        | none => cases hm
        | some x =>
          obtain ⟨t, fs⟩ := x
          rw [List.mem_singleton.mp hm]
          rcases List.mem_append.mp he with he | he
          · obtain ⟨g1, g2⟩ := (h.r2 row0 hr0).2 _ he t fs rfl
            have a := letF_le (n := 10) fun r hr => (g2.each r hr).lt
            have := g2.len
            have a5 : 10 * fs.length ≤ 30 := by rw [this]; omega
            omega
          · have z := eb i (by rw [← h.r1]; exact hi)
            rw [← List.mem_singleton.mp he] at z
            have w : EB S B 72 t fs := z
            have := w.lets
            omega
    · obtain ⟨e, he, hm⟩ := List.mem_flatMap.mp hm
      cases e with
      | none => cases hm
      | some r =>
        rw [List.mem_singleton.mp hm]
        have z := (h.e2 _ he r rfl).ok.lt
        show lets r + 0 ≤ 240
        omega

theorem tpn {H : Hp} {xs : List V} {ds : List PyData} (h : TpAll H xs ds) {t : Addr} (ht : H t = none) : Tp (upd H t (.tup xs)) (.ref t) (.tuple ds) := .tup upd_same (h.mono (tk_new ht))

/-! ### tuple * int, for any small int from 0 on -/
section
open PySem.Spec PyProof.Rows
theorem mul_one (l : Addr) (items : Array Value) (n : Nat) (dd : Option Addr) (sl : Array (Option Value)) (u : Tok) :
    Meets (Builtin.«tuple.__mul__» ⟨[.ref l, .int 1 u], []⟩) (fun _ R s => s.heap.get? l = some { cls := .type "tuple", dict := dd, data := .seq items n, slots := sl } ∧ R (.ok (.ret (Value.ref l))) s) :=
  .of_wp fun _ _ _ _ s h => by
    obtain ⟨heap, gs, dr, tk, os⟩ := s
    obtain ⟨look, fin⟩ := h
    have f1 := AutoSeq1.idx_int
    have e1 : (items.isEmpty || (1 : Int) == 1) = true := by rw [show ((1 : Int) == 1) = true from rfl, Bool.or_true]
    (wp_walk using wpAny_loadPart' look)
    repeat (first
      | (refine wpAny_ite_false (by decide) ?_; (wp_walk using wpAny_loadPart' look))
      | (refine wpAny_ite_true (decide_eq_true e1) ?_; (wp_walk using wpAny_loadPart' look)))
    exact ⟨_, rfl, fin⟩
theorem mul_nil (l : Addr) (items : Array Value) (n : Nat) (dd : Option Addr) (sl : Array (Option Value)) (u : Tok) (ne : items.isEmpty = false) :
    Meets (Builtin.«tuple.__mul__» ⟨[.ref l, .int 0 u], []⟩) (fun _ R s => s.heap.get? l = some { cls := .type "tuple", dict := dd, data := .seq items n, slots := sl } ∧
      R (.ok (.ret (Value.ref s.heap.objs.size))) { s with heap := s.heap.push { cls := Value.type "tuple", data := Data.seq #[] }, toks := s.toks }) :=
  .of_wp fun _ _ _ _ s h => by
    obtain ⟨heap, gs, dr, tk, os⟩ := s
    obtain ⟨look, fin⟩ := h
    have f1 := AutoSeq1.idx_int
    have e1 : (items.isEmpty || (0 : Int) == 1) = false := by rw [ne]; rfl
    have e2 : (decide ((0 : Int) ≤ 0) || items.isEmpty) = true := by rw [decide_eq_true (Int.le_refl 0), Bool.true_or]
    (wp_walk using wpAny_loadPart' look)
    repeat (first
      | (refine wpAny_ite_false (decide_eq_false (by rw [e1]; exact Bool.false_ne_true)) ?_; (wp_walk using wpAny_loadPart' look))
      | (refine wpAny_ite_true (decide_eq_true e2) ?_; (wp_walk using wpAny_loadPart' look))
      | (refine wpAny_ite_false (by decide) ?_; (wp_walk using wpAny_loadPart' look)))
    exact ⟨_, rfl, fin⟩
def rRepN : R2 := fun x y H Q => ∃ (l : Addr) (k : Nat) (xs : List V), x = .ref l ∧ y = .int k ∧ H l = some (.tup xs) ∧ xs ≠ [] ∧ k ≤ 1000 ∧ xs.length ≤ 1000 ∧ ∀ p H', Same H H' → H' p = some (.tup (List.replicate k xs).flatten) → Q (.ref p) H'
theorem op_repN {X : Cx} : OpR X (binaryOp .Mult) rRepN := by
  intro pins s σ H x y v u Q I rx ry h
  obtain ⟨l, k, xs, rfl, rfl, hH, hne, hk, hz, q⟩ := h
  rcases Nat.lt_or_ge k 2 with lt | ge
  · cases rx
    obtain ⟨t, rfl⟩ := ry
    obtain ⟨its, r, ⟨⟨cls, dd, data, sl⟩, ho, hc, n, hd⟩, hs⟩ := I.tuple (SqT.of hH)
    simp only at hc hd
    subst hc hd
    have hle : its.length = xs.length := r.length.symm
    have hi : its.toArray.isEmpty = false := by
      cases its with
      | nil => exact absurd (List.eq_nil_of_length_eq_zero hle.symm) hne
      | cons a b => rfl
    have e : k = 0 ∨ k = 1 := by omega
    rcases e with rfl | rfl
    · refine wpAny_binaryOp_repeat_ref (T := "tuple") (U := "int") (by decide) ⟨_, ho, rfl⟩ (fun s' => typeIs_int s' 0 t) noFill_tuple_mul F.fills_int_mul F.slot_int_rmul repeat_tuple F.slot_int_index.lookup
        (call_meets F.slot_int_rmul (typeIs_int s 0 t) F.entry_int_rmul (F.args_int_rmul_2 _ _) (int_rmul_tuple 0 t l its.toArray n dd sl)
          ⟨ho, rfl, ⟨_, ho, rfl⟩, call_meets F.slot_tuple_mul ⟨_, ho, rfl⟩ F.entry_tuple_mul (F.args_tuple_mul_2 _ _) (mul_nil l its.toArray n dd sl t hi) ⟨ho, ?_⟩⟩)
      refine ⟨.ref s.heap.objs.size, _, I.laid (t' := s.toks) (o := .tup []) (fun b ob q => Heap.get?_push_of_some _ q) (Nat.le_refl _) ⟨Nat.zero_le _, [], .nil, IsTup.new _ _⟩, rfl, q _ _ (same_new (I.hok.fresh (Nat.le_refl _))) upd_same⟩
    · refine wpAny_binaryOp_repeat_ref (T := "tuple") (U := "int") (by decide) ⟨_, ho, rfl⟩ (fun s' => typeIs_int s' 1 t) noFill_tuple_mul F.fills_int_mul F.slot_int_rmul repeat_tuple F.slot_int_index.lookup
        (call_meets F.slot_int_rmul (typeIs_int s 1 t) F.entry_int_rmul (F.args_int_rmul_2 _ _) (int_rmul_tuple 1 t l its.toArray n dd sl)
          ⟨ho, rfl, ⟨_, ho, rfl⟩, call_meets F.slot_tuple_mul ⟨_, ho, rfl⟩ F.entry_tuple_mul (F.args_tuple_mul_2 _ _) (mul_one l its.toArray n dd sl t) ⟨ho, .ref l, H, I, rfl, q _ _ (Same.refl H) ?_⟩⟩)
      rw [hH]
      show _ = some (HO.tup (xs ++ []))
      rw [List.append_nil]
  · refine op_repT pins s σ H _ _ v u Q I rx ry ⟨l, k, xs, rfl, rfl, SqT.of hH, hne, by omega, by omega, hz, fun p hp => q p _ (same_new hp) ?_⟩
    rw [upd_same, Int.toNat_natCast]
end

/-! ### a walk over a text -/
theorem for_str {x : Str} {g : TG} {tb : TS} {D : Ends} {σ : L2.St} {H : Hp} (Pv : Nat → L2.St → Hp → Prop) (h0 : Pv 0 σ H)
    (hs : ∀ i c σ H, x.cps.toList[i]? = some c → Pv i σ H → g (.str ⟨#[c]⟩) σ H fun σ2 H2 => tb { D with nx := Pv (i + 1), ct := Pv (i + 1), bk := D.nx } σ2 H2) (hd : ∀ σ H, Pv x.length σ H → D.nx σ H) :
    ∃ W : Nat → Nat → L2.St → Hp → Prop, (∃ m, W 0 m σ H) ∧ ∀ i m σ H, W i m σ H →
      ((Its x).stop i H ∧ D.nx σ H) ∨ ((Its x).go i H ∧ ∃ N : L2.St → Hp → Prop, (∀ σ' H', N σ' H' → ∃ m', m' < m ∧ W (i + 1) m' σ' H') ∧ ∀ v H', (Its x).yld i H v H' → g v σ H' fun σ2 H2 => tb { D with nx := N, ct := N, bk := D.nx } σ2 H2) := by
  refine ⟨fun i m σ H => m = x.length - i ∧ i ≤ x.length ∧ Pv i σ H, ⟨x.length, rfl, Nat.zero_le _, h0⟩, ?_⟩
  rintro i m σ H ⟨em, le, p⟩
  rcases Nat.lt_or_eq_of_le le with lt | eq
  · refine .inr ⟨lt, Pv (i + 1), fun σ' H' p' => ⟨x.length - (i + 1), by omega, rfl, lt, p'⟩, fun v H' y => ?_⟩
    obtain ⟨e, c, hc, ev⟩ := y
    rw [e, ev]
    exact hs i c σ H (by rw [Array.getElem?_toList]; exact hc) p
  · refine .inl ⟨Nat.le_of_eq eq.symm, hd σ H ?_⟩
    rw [← eq]
    exact p

/-! ### a sign times a small int -/
def repC (z : Str) (n : Nat) : Str := ⟨(List.replicate n z.cps).foldl (· ++ ·) #[]⟩
theorem foldC_list (c : Nat) : ∀ (n : Nat) (acc : Array Nat), ((List.replicate n #[c]).foldl (· ++ ·) acc).toList = acc.toList ++ List.replicate n c
  | 0, acc => by rw [List.replicate_zero, List.foldl_nil, List.replicate_zero, List.append_nil]
  | n + 1, acc => by
    rw [List.replicate_succ, List.foldl_cons, foldC_list c n, Array.toList_append, List.append_assoc, List.replicate_succ]
    rfl
theorem repC_list (c n : Nat) : (repC ⟨#[c]⟩ n).cps.toList = List.replicate n c := by
  have q := foldC_list c n #[]
  exact q
theorem repC_len (c n : Nat) : (repC ⟨#[c]⟩ n).length = n := by
  show (repC ⟨#[c]⟩ n).cps.size = n
  rw [← Array.length_toList, repC_list, List.length_replicate]
def rMulC : R2 := fun x y H Q => ∃ (c n : Nat), x = .str ⟨#[c]⟩ ∧ y = .int n ∧ n ≤ 30000 ∧ Q (.str (repC ⟨#[c]⟩ n)) H
section
open PySem.Spec PyProof.Rows
theorem op_mulC {X : Cx} : OpR X (binaryOp .Mult) rMulC := by
  intro pins s σ H x y v u Q I rx ry given
  obtain ⟨c, n, rfl, rfl, big, q⟩ := given
  obtain ⟨t, rfl⟩ := rx
  obtain ⟨t2, rfl⟩ := ry
  have z1 : (⟨#[c]⟩ : Str).length = 1 := rfl
  have tn : (⟨#[c]⟩ : Str).length * ((n : Nat) : Int).toNat = n := by rw [Int.toNat_natCast, z1, Nat.one_mul]
  refine PySem.P.mul_str ?_ (fun g1 _ => ?_) (fun _ _ => ?_) ?_
  · rw [decide_eq_false (by omega), decide_eq_false (by omega)]
    rfl
  · have h1 : ((⟨#[c]⟩ : Str).length : Int) ≤ (2 ^ 63 - 1) / (n : Int) := by
      rw [z1]
      have g2 : 1 ≤ n := by omega
      exact (Int.le_ediv_iff_mul_le (by omega)).mpr (by omega)
    exact Int.not_lt.mpr h1
  · unfold Builtin.Str.tooLong
    rw [tn]
    exact decide_eq_false (Nat.not_lt.mpr (Nat.le_trans big (by decide)))
  · have q2 := repC_len c n
    have e : n = 0 ∨ n = 1 ∨ 2 ≤ n := by omega
    rcases e with rfl | rfl | h2
    · rw [if_pos (by decide)]
      exact ⟨Nat.zero_le _, .str _, H, I.tok _, ⟨_, rfl⟩, q⟩
    · rw [if_neg (by decide), if_pos (show ((((1 : Nat) : Int) == 1) || (⟨#[c]⟩ : Str).length == 0) = true from rfl)]
      have e : repC ⟨#[c]⟩ 1 = ⟨#[c]⟩ := by
        show (⟨#[] ++ #[c]⟩ : Str) = _
        rw [Array.empty_append]
      rw [e] at q
      exact ⟨.str _, H, I, ⟨t, rfl⟩, q⟩
    · have e1 : ¬ (n : Int) < 1 := by omega
      have e2 : ((n : Int) == 1 || (⟨#[c]⟩ : Str).length == 0) = false := by
        rw [Bool.or_eq_false_iff]
        exact ⟨beq_eq_false_iff_ne.mpr (by omega), rfl⟩
      rw [if_neg e1, if_neg (by rw [e2]; exact Bool.false_ne_true), Int.toNat_natCast]
      refine ⟨?_, .str _, H, I.tok _, ⟨_, rfl⟩, q⟩
      show (repC ⟨#[c]⟩ n).length ≤ sizeLine
      rw [q2]
      exact Nat.le_trans big (by decide)
end

/-! ### writers whose recipes grow by one piece a kind at most -/
structure GR (B : Nat) (r : Rc) : Prop where
  b : ∀ i ∈ bufs r, i < B
  one : (bufs r).length ≤ 1
  len : r.length ≤ 2
  low : lowR r
  lt : lets r ≤ 121
  ne : NE r
structure FLn (n B : Nat) (r : Rc) : Prop where
  b : ∀ i ∈ bufs r, i < B
  len : r.length ≤ 1 + 2 * n
  low : lowR r
  lt : lets r ≤ 121 * n
def FEn (n S B : Nat) : Option (Nat × List Rc) → Prop
  | none => True
  | some (st, fl) => st < S ∧ fl.length = B ∧ ∀ r ∈ fl, FLn n B r ∧ NE r
structure GW (k S B : Nat) (W : Wr) : Prop where
  b1 : W.begins.length = B
  r1 : W.rules.length = S
  r2 : ∀ row ∈ W.rules, row.length = k ∧ ∀ e ∈ row, ∀ t fs, e = some (t, fs) → t < S ∧ fs.length = B ∧ ∀ r ∈ fs, GR B r
theorem putR_len {n : Nat} {fl : List Rc} : ∀ r : Rc, (∀ i ∈ bufs r, (fl.getD i []).length ≤ n) → (r.map (putR fl)).flatten.length ≤ r.length + n * (bufs r).length
  | [], _ => Nat.zero_le _
  | q :: r, h => by
    have e : q :: r = [q] ++ r := rfl
    have ih := putR_len (fl := fl) r fun i hi => h i (by rw [e, bufs_app]; exact List.mem_append_right _ hi)
    rw [List.map_cons, List.flatten_cons, List.length_append, e, bufs_app, List.length_append, List.length_append, List.length_singleton, Nat.mul_add, bufs_one]
    cases q with
    | s z =>
      show 1 + _ ≤ _
      omega
    | b i =>
      have q := h i (by rw [e, bufs_app, bufs_one]; exact List.mem_append_left _ (List.mem_singleton.mpr rfl))
      show (fl.getD i []).length + _ ≤ 1 + r.length + (n * 1 + _)
      omega
theorem gr_step {n B : Nat} {fl : List Rc} {r : Rc} (hr : GR B r) (hl : fl.length = B) (hf : ∀ y ∈ fl, FLn n B y ∧ NE y) : FLn (n + 1) B (put fl r) ∧ NE (put fl r) := by
  obtain ⟨n1, n2, n3, n4⟩ := normal_ok (r.map (putR fl)).flatten []
  have inB : ∀ i ∈ bufs r, i < fl.length := fun i hi => by rw [hl]; exact hr.b i hi
  refine ⟨⟨fun i hi => ?_, ?_, ?_, ?_⟩, (normal_nm _).ne⟩
  · rw [put_bufs] at hi
    obtain ⟨j, hj, hi⟩ := List.mem_flatMap.mp hi
    exact (hf _ (getD_mem (inB j hj))).1.b i hi
  · have a := putR_len (n := 1 + 2 * n) (fl := fl) r fun i hi => (hf _ (getD_mem (inB i hi))).1.len
    have b : (put fl r).length ≤ 0 + _ := n3
    have c := hr.one
    have d := hr.len
    have e : (1 + 2 * n) * (bufs r).length ≤ (1 + 2 * n) * 1 := Nat.mul_le_mul_left _ c
    omega
  · refine n4 (fun q hq => by cases hq) fun q hq => ?_
    obtain ⟨x, hx, hq⟩ := List.mem_flatten.mp hq
    obtain ⟨p, hp, rfl⟩ := List.mem_map.mp hx
    cases p with
    | s z =>
      rw [List.mem_singleton.mp hq]
      exact hr.low _ hp
    | b i => exact (hf _ (getD_mem (inB i (List.mem_flatMap.mpr ⟨_, hp, List.mem_singleton.mpr rfl⟩)))).1.low q hq
  · rw [put_lets]
    have a := hr.lt
    have b : ((bufs r).map (gL fl)).sum ≤ 121 * n := by
      have c := hr.one
      have d : ∀ i ∈ bufs r, gL fl i ≤ 121 * n := fun i hi => (hf _ (getD_mem (inB i hi))).1.lt
      generalize bufs r = l at c d
      match l, c, d with
      | [], _, _ => exact Nat.zero_le _
      | [i], _, d =>
        have := d i List.mem_cons_self
        show gL fl i + 0 ≤ _
        omega
    omega
theorem gr_fold {k S B : Nat} {W : Wr} (h : GW k S B W) : ∀ (ns : List Nat) (n : Nat) (o : Option (Nat × List Rc)), (∀ i ∈ ns, i < k) → FEn n S B o → FEn (n + ns.length) S B (ns.foldl (stepE W) o)
  | [], n, o, _, ho => ho
  | x :: r, n, o, hn, ho => by
    have e : n + (x :: r).length = n + 1 + r.length := by rw [List.length_cons]; omega
    rw [e, List.foldl_cons]
    refine gr_fold h r (n + 1) _ (fun i hi => hn i (List.mem_cons_of_mem _ hi)) ?_
    cases o with
    | none => exact True.intro
    | some s =>
      obtain ⟨st, fl⟩ := s
      obtain ⟨o1, o2, o3⟩ : st < S ∧ fl.length = B ∧ ∀ r ∈ fl, FLn n B r ∧ NE r := ho
      have h1 : st < W.rules.length := by rw [h.r1]; exact o1
      obtain ⟨l, q⟩ := h.r2 _ (List.getElem_mem h1)
      have h2 : x < (W.rules[st]).length := by rw [l]; exact hn x List.mem_cons_self
      have e2 : (W.rules.getD st []).getD x none = (W.rules[st])[x] := by
        rw [List.getD_eq_getElem?_getD, List.getD_eq_getElem?_getD, List.getElem?_eq_getElem h1, Option.getD_some, List.getElem?_eq_getElem h2, Option.getD_some]
      have e3 : stepE W (some (st, fl)) x = stepT fl (W.rules[st])[x] := congrArg (stepT fl) e2
      rw [e3]
      have ok := q _ (List.getElem_mem h2)
      cases he : (W.rules[st])[x] with
      | none => exact True.intro
      | some y =>
        obtain ⟨t, fs⟩ := y
        obtain ⟨g1, g2, g3⟩ := ok t fs he
        refine ⟨g1, by rw [List.length_map]; exact g2, fun y hy => ?_⟩
        obtain ⟨r, hr, rfl⟩ := List.mem_map.mp hy
        exact gr_step (g3 r hr) o2 o3
theorem fen_own {S B st : Nat} (h : st < S) : FEn 0 S B (some (st, ownF B)) := by
  refine ⟨h, by unfold ownF; rw [List.length_map, List.length_range], fun r hr => ?_⟩
  obtain ⟨i, hi, rfl⟩ := List.mem_map.mp hr
  refine ⟨⟨fun j hj => ?_, Nat.le_refl _, lowR_one True.intro, Nat.le_refl _⟩, fun z hz => by cases List.mem_singleton.mp hz⟩
  rw [List.mem_singleton.mp hj]
  exact List.mem_range.mp hi
theorem mt_gw {k S B : Nat} {W : Wr} (h : GW k S B W) (s1 : 1 ≤ S) (s2 : S ≤ 12) (b1 : 1 ≤ B) (b2 : B ≤ 3) (k9 : k ≤ 9) (hb : ∀ z ∈ W.begins, Tx 300 z) (el : W.ends.length ≤ 20) (he : ∀ e ∈ W.ends, ∀ q, e = some q → RSz q) {ns : List Nat} (hn : ∀ i ∈ ns, i < k) (hl : ns.length ≤ 4) : MT k S B W ns := by
  have fit : ∀ st, st < S → ∀ j, j ≤ ns.length → FE S B ((ns.take j).foldl (stepE W) (some (st, ownF W.begins.length))) := fun st hst j hj => by
    have q := gr_fold h (ns.take j) 0 (some (st, ownF W.begins.length)) (fun i hi => hn i (List.mem_of_mem_take hi)) (by rw [h.b1]; exact fen_own hst)
    have lj : 0 + (ns.take j).length ≤ 4 := by rw [List.length_take]; omega
    generalize 0 + (ns.take j).length = n at q lj
    cases e : (ns.take j).foldl (stepE W) (some (st, ownF W.begins.length)) with
    | none => exact True.intro
    | some s =>
      obtain ⟨s', fl⟩ := s
      rw [e] at q
      obtain ⟨q1, q2, q3⟩ : s' < S ∧ fl.length = B ∧ ∀ r ∈ fl, FLn n B r ∧ NE r := q
      refine ⟨q1, q2, fun r hr => ?_⟩
      obtain ⟨z1, z2⟩ := q3 r hr
      have := z1.len
      have := z1.lt
      exact ⟨z1.b, by omega, z1.low, by omega, z2⟩
  have gsz : ∀ {r : Rc}, FL B r → RSz r := fun z => ⟨z.lt, z.low, Nat.le_trans z.len (by decide), fun i hi => by have := z.b i hi; omega⟩
  refine ⟨⟨h.b1, by omega, h.r1, fun row hrow => ⟨(h.r2 row hrow).1, fun e he t fs q => ?_⟩⟩, hn, by omega, fit, ⟨by show 1 ≤ W.begins.length; rw [h.b1]; exact b1, by show W.begins.length ≤ 10; rw [h.b1]; omega, hb, ?_, ?_, fun row hrow => ?_, el, he⟩, s2, b2⟩
  · obtain ⟨g1, g2, g3⟩ := (h.r2 row hrow).2 e he t fs q
    refine ⟨g1, g2, fun r hr => ?_⟩
    have z := g3 r hr
    exact ⟨z.b, Nat.le_trans z.len (by decide), z.low, Nat.le_trans z.lt (by decide), z.ne⟩
  · show 1 ≤ ((List.range _).map _).length
    rw [List.length_map, List.length_range, h.r1]
    exact s1
  · show ((List.range _).map _).length ≤ 20
    rw [List.length_map, List.length_range, h.r1]
    omega
  · obtain ⟨i, row0, hi, hr0, rfl⟩ := mark_new hrow
    obtain ⟨l, q⟩ := h.r2 row0 hr0
    refine ⟨by rw [List.length_append, List.length_singleton]; omega, fun e he t fs e2 => ?_⟩
    rcases List.mem_append.mp he with he | he
    · obtain ⟨g1, g2, g3⟩ := q e he t fs e2
      refine ⟨by omega, by omega, fun r hr => ?_⟩
      have z := g3 r hr
      exact ⟨Nat.le_trans z.lt (by decide), z.low, Nat.le_trans z.len (by decide), fun i hi => by have := z.b i hi; omega⟩
    · have z := fit i (by rw [← h.r1]; exact hi) ns.length (Nat.le_refl _)
      rw [List.take_length] at z
      have e3 : entW W i ns = some (t, fs) := (List.mem_singleton.mp he).symm.trans e2
      unfold entW at e3
      rw [e3] at z
      obtain ⟨z1, z2, z3⟩ : t < S ∧ fs.length = B ∧ ∀ r ∈ fs, FL B r := z
      exact ⟨by omega, by omega, fun r hr => gsz (z3 r hr)⟩
/-! letters that a word brings -/
theorem keep_sum {fl fs : List Rc} (e : fs.flatMap bufs = List.range fl.length) : letF (fs.map (put fl)) = letF fs + letF fl := by
  rw [puts_lets, e, range_gL]
theorem rep_run {W : Wr} {st kd B : Nat} {fs : List Rc} (e : (W.rules.getD st []).getD kd none = some (st, fs)) (h1 : fs.flatMap bufs = List.range B) (h2 : fs.length = B) :
    ∀ (n : Nat) (fl : List Rc), fl.length = B → ∃ fl', (List.replicate n kd).foldl (stepE W) (some (st, fl)) = some (st, fl') ∧ fl'.length = B ∧ letF fl' = letF fl + n * letF fs
  | 0, fl, hl => ⟨fl, rfl, hl, by rw [Nat.zero_mul]; rfl⟩
  | n + 1, fl, hl => by
    have e2 : stepE W (some (st, fl)) kd = some (st, fs.map (put fl)) := (congrArg (stepT fl) e)
    obtain ⟨fl', g1, g2, g3⟩ := rep_run e h1 h2 n (fs.map (put fl)) (by rw [List.length_map]; exact h2)
    refine ⟨fl', ?_, g2, ?_⟩
    · rw [List.replicate_succ, List.foldl_cons, e2]
      exact g1
    · rw [g3, keep_sum (by rw [h1, hl]), Nat.add_mul, Nat.one_mul]
      omega
theorem own_sum (B : Nat) : letF (ownF B) = 0 := by
  have q := (eb_own (S := 1) (st := 0) (B := B) (by decide)).lets
  omega
theorem own_len (B : Nat) : (ownF B).length = B := by unfold ownF; rw [List.length_map, List.length_range]
theorem lim_at {l : List Nat} {L m : Nat} (hL : L ∈ l) (h : ∀ x ∈ l, x ≤ 240 ∨ x = L) (hm : m ∈ l) (hle : ∀ x ∈ l, x ≤ m) : limV m = limV L := by
  have a := hle L hL
  have b := h m hm
  unfold limV
  by_cases c : L ≤ 240
  · rw [if_pos c, if_pos (by omega)]
  · rw [if_neg c, if_neg (by omega)]
theorem lim_no {l : List Nat} {m : Nat} (h : ∀ x ∈ l, x ≤ 240) (hm : m ∈ l) : limV m = .non := by
  unfold limV
  rw [if_pos (h m hm)]
/-! the writers -/
abbrev aN (n : Nat) : Str := repC ⟨#[97]⟩ n
abbrev bN (n : Nat) : Str := repC ⟨#[98]⟩ n
abbrev cN (n : Nat) : Str := repC ⟨#[99]⟩ n
def growE (n : Nat) : Option (Nat × List Rc) := some (0, [[.b 0, .s (aN n)]])
def dropE : Option (Nat × List Rc) := some (0, [[]])
def go60 : Option (Nat × List Rc) := some (1, [[.b 0, .s (cN 60)]])
def ringW (n : Nat) : Wr := ⟨[bN 60], [[growE n, dropE]], [some [.b 0]]⟩
def pairW (h : Nat) : Wr := ⟨["", ""], [[some (0, [[.b 0, .s (aN h)], [.s (bN h), .b 1]])]], [some [.b 0, .b 1]]⟩
def twiceW (n : Nat) : Wr := ⟨["b"], [[growE n, go60], [none, go60]], [some [.b 0], none]⟩
theorem lowC {c : Nat} (h : 97 ≤ c ∧ c ≤ 122) (n : Nat) : ∀ x ∈ (repC ⟨#[c]⟩ n).cps.toList, 97 ≤ x ∧ x ≤ 122 := fun x hx => by
  rw [repC_list] at hx
  rw [(List.mem_replicate.mp hx).2]
  exact h
theorem lowR_two {p q : Pt} (h1 : p.low) (h2 : q.low) : lowR [p, q] := fun y hy => by
  rcases List.mem_cons.mp hy with rfl | hy
  · exact h1
  · rw [List.mem_singleton.mp hy]
    exact h2
theorem lets_bs (i : Nat) (z : Str) : lets [.b i, .s z] = z.length := by
  show 0 + (z.length + 0) = _
  omega
theorem lets_sb (i : Nat) (z : Str) : lets [.s z, .b i] = z.length := by
  show z.length + (0 + 0) = _
  omega
theorem gr_bs {B i c n : Nat} (hi : i < B) (hc : 97 ≤ c ∧ c ≤ 122) (h0 : 1 ≤ n) (hn : n ≤ 121) : GR B [.b i, .s (repC ⟨#[c]⟩ n)] := by
  refine ⟨fun j hj => ?_, Nat.le_refl _, Nat.le_refl _, lowR_two True.intro (lowC hc n), by rw [lets_bs, repC_len]; exact hn, fun z hz => ?_⟩
  · rw [List.mem_singleton.mp hj]
    exact hi
  · rcases List.mem_cons.mp hz with hz | hz
    · cases hz
    · cases List.mem_singleton.mp hz
      rw [repC_len]
      exact h0
theorem gr_sb {B i c n : Nat} (hi : i < B) (hc : 97 ≤ c ∧ c ≤ 122) (h0 : 1 ≤ n) (hn : n ≤ 121) : GR B [.s (repC ⟨#[c]⟩ n), .b i] := by
  refine ⟨fun j hj => ?_, Nat.le_refl _, Nat.le_refl _, lowR_two (lowC hc n) True.intro, by rw [lets_sb, repC_len]; exact hn, fun z hz => ?_⟩
  · rw [List.mem_singleton.mp hj]
    exact hi
  · rcases List.mem_cons.mp hz with hz | hz
    · cases hz
      rw [repC_len]
      exact h0
    · cases List.mem_singleton.mp hz
theorem gr_nil {B : Nat} : GR B [] := ⟨fun j hj => (by cases hj), Nat.zero_le _, Nat.zero_le _, fun j hj => (by cases hj), Nat.zero_le _, fun j hj => (by cases hj)⟩
theorem rsz_b {i : Nat} (h : i < 100) : RSz [.b i] := ⟨Nat.zero_le _, lowR_one True.intro, (by show 1 ≤ 300; decide), fun j hj => by rw [List.mem_singleton.mp hj]; exact h⟩
theorem one_of_two {α : Type} {P : α → Prop} {a b : α} (h1 : P a) (h2 : P b) : ∀ x ∈ [a, b], P x := fun x hx => by
  rcases List.mem_cons.mp hx with rfl | hx
  · exact h1
  · rw [List.mem_singleton.mp hx]
    exact h2
theorem one_of_one {α : Type} {P : α → Prop} {a : α} (h1 : P a) : ∀ x ∈ [a], P x := fun x hx => by
  rw [List.mem_singleton.mp hx]
  exact h1
theorem ring_gw {n : Nat} (h0 : 1 ≤ n) (hn : n ≤ 121) : GW 2 1 1 (ringW n) := by
  refine ⟨rfl, rfl, one_of_one ⟨rfl, one_of_two (fun t fs e => ?_) (fun t fs e => ?_)⟩⟩
  · cases e
    exact ⟨by decide, rfl, one_of_one (gr_bs (by decide) (by decide) h0 hn)⟩
  · cases e
    exact ⟨by decide, rfl, one_of_one gr_nil⟩
theorem pair_gw {n : Nat} (h0 : 1 ≤ n) (hn : n ≤ 121) : GW 1 1 2 (pairW n) := by
  refine ⟨rfl, rfl, one_of_one ⟨rfl, one_of_one (fun t fs e => ?_)⟩⟩
  cases e
  exact ⟨by decide, rfl, one_of_two (gr_bs (by decide) (by decide) h0 hn) (gr_sb (by decide) (by decide) h0 hn)⟩
theorem twice_gw {n : Nat} (h0 : 1 ≤ n) (hn : n ≤ 121) : GW 2 2 1 (twiceW n) := by
  have g : ∀ t fs, go60 = some (t, fs) → t < 2 ∧ fs.length = 1 ∧ ∀ r ∈ fs, GR 1 r := fun t fs e => by
    cases e
    exact ⟨by decide, rfl, one_of_one (gr_bs (by decide) (by decide) (by decide) (by decide))⟩
  refine ⟨rfl, rfl, one_of_two ⟨rfl, one_of_two (fun t fs e => ?_) g⟩ ⟨rfl, one_of_two (fun t fs e => ?_) g⟩⟩
  · cases e
    exact ⟨by decide, rfl, one_of_one (gr_bs (by decide) (by decide) h0 hn)⟩
  · cases e
theorem ring_mt {n : Nat} (h0 : 1 ≤ n) (hn : n ≤ 121) {ns : List Nat} (h : ∀ i ∈ ns, i < 2) (hl : ns.length ≤ 4) : MT 2 1 1 (ringW n) ns :=
  mt_gw (ring_gw h0 hn) (by decide) (by decide) (by decide) (by decide) (by decide) (one_of_one ⟨by rw [repC_len]; decide, lowC (by decide) _⟩) (by show 1 ≤ 20; decide) (one_of_one fun q e => by cases e; exact rsz_b (by decide)) h hl
theorem pair_mt {n : Nat} (h0 : 1 ≤ n) (hn : n ≤ 121) {ns : List Nat} (h : ∀ i ∈ ns, i < 1) (hl : ns.length ≤ 4) : MT 1 1 2 (pairW n) ns :=
  mt_gw (pair_gw h0 hn) (by decide) (by decide) (by decide) (by decide) (by decide) (one_of_two ⟨by decide, fun c hc => (by cases hc)⟩ ⟨by decide, fun c hc => (by cases hc)⟩) (by show 1 ≤ 20; decide)
    (one_of_one fun q e => by cases e; exact ⟨Nat.zero_le _, lowR_two True.intro True.intro, (by show 2 ≤ 300; decide), fun j hj => by have e : bufs [Pt.b 0, Pt.b 1] = [0, 1] := rfl; rw [e] at hj; rcases List.mem_cons.mp hj with rfl | hj; decide; rw [List.mem_singleton.mp hj]; decide⟩) h hl
theorem twice_mt {n : Nat} (h0 : 1 ≤ n) (hn : n ≤ 121) {ns : List Nat} (h : ∀ i ∈ ns, i < 2) (hl : ns.length ≤ 4) : MT 2 2 1 (twiceW n) ns :=
  mt_gw (twice_gw h0 hn) (by decide) (by decide) (by decide) (by decide) (by decide) (one_of_one ⟨by decide, by decide +kernel⟩) (by show 2 ≤ 20; decide) (one_of_two (fun q e => by cases e; exact rsz_b (by decide)) fun q e => by cases e) h hl
theorem letF_one (r : Rc) : letF [r] = lets r := by
  show lets r + 0 = _
  rw [Nat.add_zero]
theorem grow_let (n : Nat) : letF [[.b 0, .s (aN n)]] = n := by rw [letF_one, lets_bs, repC_len]
theorem go_let : letF [[.b 0, .s (cN 60)]] = 60 := by rw [letF_one, lets_bs, repC_len]
theorem pair_let (h : Nat) : letF [[.b 0, .s (aN h)], [.s (bN h), .b 1]] = 2 * h := by
  show lets _ + (lets _ + 0) = _
  rw [lets_bs, lets_sb, repC_len, repC_len]
  omega
theorem nil_let : letF [([] : Rc)] = 0 := rfl
theorem ring_ent {n l : Nat} : ∃ fl, entW (ringW n) 0 (List.replicate l 0) = some (0, fl) ∧ letF fl = l * n := by
  obtain ⟨fl, g1, g2, g3⟩ := rep_run (W := ringW n) (st := 0) (kd := 0) (B := 1) (fs := [[.b 0, .s (aN n)]]) rfl rfl rfl l (ownF 1) (own_len 1)
  refine ⟨fl, g1, ?_⟩
  rw [g3, own_sum, grow_let, Nat.zero_add]
theorem ring_drop {n l : Nat} : entW (ringW n) 0 (List.replicate l 0 ++ [1]) = some (0, [[]]) := by
  obtain ⟨fl, g1, g2, g3⟩ := rep_run (W := ringW n) (st := 0) (kd := 0) (B := 1) (fs := [[.b 0, .s (aN n)]]) rfl rfl rfl l (ownF 1) (own_len 1)
  unfold entW
  have e : ownF (ringW n).begins.length = ownF 1 := rfl
  rw [e, List.foldl_append, g1]
  rfl
theorem pair_ent {h l : Nat} : ∃ fl, entW (pairW h) 0 (List.replicate l 0) = some (0, fl) ∧ letF fl = l * (2 * h) := by
  obtain ⟨fl, g1, g2, g3⟩ := rep_run (W := pairW h) (st := 0) (kd := 0) (B := 2) (fs := [[.b 0, .s (aN h)], [.s (bN h), .b 1]]) rfl rfl rfl l (ownF 2) (own_len 2)
  refine ⟨fl, g1, ?_⟩
  rw [g3, own_sum, pair_let, Nat.zero_add]
theorem twice_ent {n l : Nat} (h : 1 ≤ l) : ∃ fl, entW (twiceW n) 0 (List.replicate l 0) = some (0, fl) ∧ letF fl = l * n ∧ entW (twiceW n) 1 (List.replicate l 0) = none := by
  obtain ⟨fl, g1, g2, g3⟩ := rep_run (W := twiceW n) (st := 0) (kd := 0) (B := 1) (fs := [[.b 0, .s (aN n)]]) rfl rfl rfl l (ownF 1) (own_len 1)
  refine ⟨fl, g1, ?_, ?_⟩
  · rw [g3, own_sum, grow_let, Nat.zero_add]
  · obtain ⟨l', rfl⟩ : ∃ l', l = l' + 1 := ⟨l - 1, by omega⟩
    unfold entW
    rw [List.replicate_succ, List.foldl_cons]
    exact fold_noneE _ _
theorem twice_go {n : Nat} : ∃ f0 f1, entW (twiceW n) 0 [1, 1, 1, 1] = some (1, f0) ∧ letF f0 = 240 ∧ entW (twiceW n) 1 [1, 1, 1, 1] = some (1, f1) ∧ letF f1 = 240 := by
  obtain ⟨f1, g1, g2, g3⟩ := rep_run (W := twiceW n) (st := 1) (kd := 1) (B := 1) (fs := [[.b 0, .s (cN 60)]]) rfl rfl rfl 4 (ownF 1) (own_len 1)
  obtain ⟨f0, j1, j2, j3⟩ := rep_run (W := twiceW n) (st := 1) (kd := 1) (B := 1) (fs := [[.b 0, .s (cN 60)]]) rfl rfl rfl 3 ([[.b 0, .s (cN 60)]].map (put (ownF 1))) rfl
  have r3 : List.replicate 3 1 = [1, 1, 1] := rfl
  have r4 : List.replicate 4 1 = [1, 1, 1, 1] := rfl
  rw [r3] at j1
  rw [r4] at g1
  have s0 : stepE (twiceW n) (some (0, ownF 1)) 1 = some (1, [[.b 0, .s (cN 60)]].map (put (ownF 1))) := congrArg (stepT (ownF 1)) (show ((twiceW n).rules.getD 0 []).getD 1 none = go60 from rfl)
  have o1 : ownF (twiceW n).begins.length = ownF 1 := rfl
  refine ⟨f0, f1, ?_, ?_, ?_, ?_⟩
  · unfold entW
    rw [o1, List.foldl_cons, s0]
    exact j1
  · rw [j3, keep_sum rfl, own_sum, go_let]
  · unfold entW
    rw [o1]
    exact g1
  · rw [g3, own_sum, go_let]
theorem ring_places {n : Nat} {ns : List Nat} {t : Nat} {fl : List Rc} (e : entW (ringW n) 0 ns = some (t, fl)) : placesW (markW (ringW n) ns) = [60, n, 0, letF fl, 0] := by
  show [(bN 60).length] ++ ([[growE n, dropE] ++ [entW (ringW n) 0 ns]].flatMap fun row => row.flatMap entL) ++ [letF [[Pt.b 0]]] = _
  rw [e]
  show [(bN 60).length, letF [[.b 0, .s (aN n)]], 0, letF fl, 0] = _
  rw [repC_len, grow_let]
theorem pair_places {h : Nat} {ns : List Nat} {t : Nat} {fl : List Rc} (e : entW (pairW h) 0 ns = some (t, fl)) : placesW (markW (pairW h) ns) = [0, 0, 2 * h, letF fl, 0] := by
  show [0, 0] ++ ([[some (0, [[.b 0, .s (aN h)], [.s (bN h), .b 1]])] ++ [entW (pairW h) 0 ns]].flatMap fun row => row.flatMap entL) ++ [0] = _
  rw [e]
  show [0, 0, letF [[.b 0, .s (aN h)], [.s (bN h), .b 1]], letF fl, 0] = _
  rw [pair_let]
theorem twice_places {n : Nat} {ns : List Nat} {o0 o1 : Option (Nat × List Rc)} (e0 : entW (twiceW n) 0 ns = o0) (e1 : entW (twiceW n) 1 ns = o1) : placesW (markW (twiceW n) ns) = [1] ++ (n :: 60 :: (entL o0 ++ (60 :: entL o1))) ++ [0] := by
  show [1] ++ ([[growE n, go60] ++ [entW (twiceW n) 0 ns], [none, go60] ++ [entW (twiceW n) 1 ns]].flatMap fun row => row.flatMap entL) ++ [0] = _
  rw [e0, e1]
  show [1] ++ (letF [[.b 0, .s (aN n)]] :: letF [[.b 0, .s (cN 60)]] :: (entL o0 ++ []) ++ ((letF [[.b 0, .s (cN 60)]] :: (entL o1 ++ [])) ++ [])) ++ [0] = _
  rw [grow_let, go_let, List.append_nil, List.append_nil, List.append_nil]
  rfl
/-! what the law asks -/
theorem ring_lim {n l m : Nat} (hn : n ≤ 121) (hm : m ∈ placesW (markW (ringW n) (List.replicate l 0))) (hle : ∀ x ∈ placesW (markW (ringW n) (List.replicate l 0)), x ≤ m) : limV m = limV (l * n) := by
  obtain ⟨fl, e, hL⟩ := ring_ent (n := n) (l := l)
  rw [ring_places e, hL] at hm hle
  refine lim_at (by simp) (fun x hx => ?_) hm hle
  simp only [List.mem_cons, List.mem_nil_iff, or_false] at hx
  omega
theorem ring_lim1 {n l m : Nat} (hn : n ≤ 121) (hm : m ∈ placesW (markW (ringW n) (List.replicate l 0 ++ [1]))) : limV m = .non := by
  rw [ring_places ring_drop, nil_let] at hm
  refine lim_no (fun x hx => ?_) hm
  simp only [List.mem_cons, List.mem_nil_iff, or_false] at hx
  omega
theorem pair_lim {h l m : Nat} (hn : h ≤ 60) (hm : m ∈ placesW (markW (pairW h) (List.replicate l 0))) (hle : ∀ x ∈ placesW (markW (pairW h) (List.replicate l 0)), x ≤ m) : limV m = limV (l * (2 * h)) := by
  obtain ⟨fl, e, hL⟩ := pair_ent (h := h) (l := l)
  rw [pair_places e, hL] at hm hle
  refine lim_at (by simp) (fun x hx => ?_) hm hle
  simp only [List.mem_cons, List.mem_nil_iff, or_false] at hx
  omega
theorem twice_lim {n l m : Nat} (hn : n ≤ 121) (h : 1 ≤ l) (hm : m ∈ placesW (markW (twiceW n) (List.replicate l 0))) (hle : ∀ x ∈ placesW (markW (twiceW n) (List.replicate l 0)), x ≤ m) : limV m = limV (l * n) := by
  obtain ⟨fl, e, hL, e1⟩ := twice_ent (n := n) h
  rw [twice_places e e1] at hm hle
  have z : ([1] ++ (n :: 60 :: (entL (some (0, fl)) ++ (60 :: entL none))) ++ [0] : List Nat) = [1, n, 60, l * n, 60, 0] := by
    show [1, n, 60, letF fl, 60, 0] = _
    rw [hL]
  rw [z] at hm hle
  refine lim_at (by simp) (fun x hx => ?_) hm hle
  simp only [List.mem_cons, List.mem_nil_iff, or_false] at hx
  omega
theorem twice_lim1 {n m : Nat} (hn : n ≤ 121) (hm : m ∈ placesW (markW (twiceW n) [1, 1, 1, 1])) : limV m = .non := by
  obtain ⟨f0, f1, e0, l0, e1, l1⟩ := twice_go (n := n)
  rw [twice_places e0 e1] at hm
  have z : ([1] ++ (n :: 60 :: (entL (some (1, f0)) ++ (60 :: entL (some (1, f1))))) ++ [0] : List Nat) = [1, n, 60, 240, 60, 240, 0] := by
    show [1, n, 60, letF f0, 60, letF f1, 0] = _
    rw [l0, l1]
  rw [z] at hm
  refine lim_no (fun x hx => ?_) hm
  simp only [List.mem_cons, List.mem_nil_iff, or_false] at hx
  omega

/-! ### tuples over tuples, made; a number or none -/
def tTupT (t : TA) : TE := fun σ H Q => t σ H fun xs H1 => ∃ ds, TpAll H1 xs ds ∧ xs.length ≤ 100 ∧ ∀ (p : Addr) H', Same H1 H' → Tp H' (.ref p) (.tuple ds) → Q (.ref p) H'
section
open PySem.Spec PyProof.Rows
variable {X : Cx} {es : List Expr} {c a b : Expr} {k : Nat} {pos : Pos} {t : TA} {tA : TT}
def moreA (t : TA) : TA := fun σ H Q => ∃ Q' : List V → Hp → Prop, t σ H Q' ∧ ∀ xs H1, Q' xs H1 → Q xs H1
def moreT (t : TT) : TT := fun σ H Q => ∃ Q' : Bool → Hp → Prop, t σ H Q' ∧ ∀ c H1, Q' c H1 → Q c H1
theorem pa_more (h : PA X es t) : PA X es (moreA t) := ⟨fun p pins s σ H Q I ⟨Q', a, b⟩ => thn (h.run p pins s σ H Q' I a) fun us s1 ⟨xs, H1, I1, r, q⟩ => ⟨xs, H1, I1, r, b _ _ q⟩⟩
theorem pt_more (h : PT X c tA) : PT X c (moreT tA) := ⟨fun pins s σ H Q I ⟨Q', a, b⟩ => thn (h.run pins s σ H Q' I a) fun d s1 ⟨H1, I1, q⟩ => ⟨H1, I1, b _ _ q⟩⟩
theorem pe_tupT (h : PA X es t) : PE X (.Tuple es k pos) (tTupT t) :=
  ⟨fun pins s σ H Q I q => (pe_tup (pa_more h)).run pins s σ H Q I ⟨_, q, fun xs H1 ⟨ds, r, z, k⟩ => ⟨Nat.le_trans z (by decide), fun p hp => k p _ (same_new hp) (tpn r hp)⟩⟩⟩
/-- 240 where the number is above it, else None -/
def tLim (t : TT) : TE := fun σ H Q => t σ H fun d H1 => ∃ x : Nat, d = decide ((240 : Int) < (x : Int)) ∧ Q (limV x) H1
theorem pe_lim (hc : PT X c tA) (ha : PE X a (tC (.int 240))) (hb : PE X b (tC .non)) : PE X (.IfExp c a b pos) (tLim tA) :=
  ⟨fun pins s σ H Q I q => (pe_ifExp (pt_more hc) ha hb).run pins s σ H Q I ⟨_, q, fun d H1 ⟨x, e, k⟩ => by
    subst e
    unfold limV at k
    by_cases hx : x ≤ 240
    · rw [if_pos hx] at k
      exact iteF' (decide_eq_false (by omega)) k
    · rw [if_neg hx] at k
      exact iteT' (decide_eq_true (by omega)) k⟩⟩
end
theorem lim_dec {i j : Int} {n l : Nat} (hi : i = n) (hj : j = l) : decide ((240 : Int) < i * j) = decide ((240 : Int) < ((l * n : Nat) : Int)) := by
  subst hi hj
  rw [Int.natCast_mul, Int.mul_comm]
def limD (m : Nat) : PyData := if m ≤ 240 then .none else .int 240
theorem tp_lim (H : Hp) (m : Nat) : Tp H (limV m) (limD m) := by
  unfold limV limD
  by_cases c : m ≤ 240
  · rw [if_pos c, if_pos c]
    exact .non
  · rw [if_neg c, if_neg c]
    exact .int _
theorem neat_lim (m : Nat) : Neat 0 100 (limD m) := by
  unfold limD
  by_cases c : m ≤ 240
  · rw [if_pos c]
    exact neat_none.le (by decide) (by decide)
  · rw [if_neg c]
    exact (neat_int (i := 240) (by decide)).le (by decide) (by decide)
theorem rep_wd (x n : Nat) : (List.replicate n [V.int x]).flatten = (iN (List.replicate n x)).map V.int := by
  induction n with
  | zero => rfl
  | succ n ih => rw [List.replicate_succ, List.flatten_cons, ih, List.replicate_succ]; rfl
theorem lit_a : V.str "a" = V.str ⟨#[97]⟩ := congrArg V.str (by decide +kernel)
theorem lit_b : V.str "b" = V.str ⟨#[98]⟩ := congrArg V.str (by decide +kernel)
theorem lit_c : V.str "c" = V.str ⟨#[99]⟩ := congrArg V.str (by decide +kernel)

/-! ### the law's writers by hand, at the limit -/
def spLong54 : Sp := fun vs H Q _ => ∃ (p c : Addr), vs = [.ref p] ∧ Pen H p c ∧ ∀ H', Kp p c H H' → Q (.bl true) H'
def nLong54 : List Str := ["pen", "size", "laps", "grow", "drop", "writer", "owed", "half", "pair", "row", "twice"]
theorem sc_long54 : FnScope nLong54 ["pen"] (fnScope st_law_long_right) := fnScope_by (by decide +kernel)
theorem sameL (z : Str) : (!decide (V.str z = V.str z)) = false := by
  rw [decide_eq_true rfl]
  rfl
section
variable {P : Program} {w : World} {K : PySem.W.Frag} {mg : Str → Option Value} {base : Heap} {f : Addr} {fd : FuncData}
set_option maxHeartbeats 20000000 in
theorem fn_long54 (F : C8.Fun K "_law_long_right" "_law_long_right" st_law_long_right f fd) (Br : mg "repr" = none) (Cd : Cal P w K mg base 2 "_law_draw" spDraw []) (Cl : Cal P w K mg base 6 "_law_limit" spLimit []) : FnG P w K mg base 7 f fd ["pen"] spLong54 := by
  refine fnG_by F sc_long54 (fun vs H Q E h => ?_) (fun cdv A outer s H vs Q E gu hr h => ?_)
  · obtain ⟨p, c, rfl, _⟩ := h
    rfl
  · obtain ⟨p, c, rfl, hP, k⟩ := h
    refine ⟨_, pss_cons (ps_par (i := 1) (j := 2) rfl sc_long54.nd rfl rfl (by decide) rfl rfl (pa_cons (pe_op op_add pe_int (pe_c Cd hr (by decide) (by rfl) (pa_cons (pv 0) (pa_cons pe_int pa_nil)))) (pa_cons (pe_op op_add pe_int (pe_c Cd hr (by decide) (by rfl) (pa_cons (pv 0) (pa_cons pe_int pa_nil)))) pa_nil)) (by rfl))
      (pss_cons (ps_par (i := 3) (j := 4) rfl sc_long54.nd rfl rfl (by decide) rfl rfl (pa_cons (pe_tupT (pa_cons pe_int (pa_cons (pe_tupT (pa_cons (pe_tupT (pa_cons pe_int (pa_cons (pe_op op_mulC pe_str (pv 1)) pa_nil))) pa_nil)) pa_nil))) (pa_cons (pe_tupT (pa_cons pe_int (pa_cons (pe_tupT (pa_cons (pe_tupT pa_nil) pa_nil)) pa_nil))) pa_nil)) (by rfl))
      (pss_cons (ps_set (i := 5) sc_long54.nd rfl (Or.inl rfl) (pe_tupT (pa_cons (pe_tupT (pa_cons (pe_op op_mulC pe_str pe_int) pa_nil)) (pa_cons (pe_tupT (pa_cons (pe_tupT (pa_cons (pv 3) (pa_cons (pv 4) pa_nil))) pa_nil)) (pa_cons (pe_tupT (pa_cons (pe_tupT (pa_cons pe_int pa_nil)) pa_nil)) pa_nil)))))
      (pss_cons (ps_set (i := 6) sc_long54.nd rfl (Or.inl rfl) (pe_lim (pt_cmpR op_gt (pe_op op_mul (pv 1) (pv 2)) pe_int (nomark _)) pe_int pe_non))
      (pss_cons (ps_if (pt_cmpR op_ne (pe_callB (call_repr gu hr.units) (by rfl) Br (by decide +kernel) (pa_cons (pe_c Cl hr (by decide) (by rfl) (pa_cons (pv 5) (pa_cons (pe_op op_repN (pe_tup (pa_cons pe_int pa_nil)) (pv 2)) pa_nil))) pa_nil)) (pe_callB (call_repr gu hr.units) (by rfl) Br (by decide +kernel) (pa_cons (pv 6) pa_nil)) (nomark _)) (pss_one (ps_ret pe_bl)) pss_nil)
      (pss_cons (ps_if (pt_cmp (pc_notN (pe_c Cl hr (by decide) (by rfl) (pa_cons (pv 5) (pa_cons (pe_op op_catA (pe_op op_repN (pe_tup (pa_cons pe_int pa_nil)) (pe_op op_sub (pv 2) pe_int)) (pe_tupT (pa_cons pe_int pa_nil))) pa_nil))))) (pss_one (ps_ret pe_bl)) pss_nil)
      (pss_cons (ps_set (i := 7) sc_long54.nd rfl (Or.inl rfl) (pe_op op_fdivNN (pv 1) pe_int))
      (pss_cons (ps_set (i := 8) sc_long54.nd rfl (Or.inl rfl) (pe_tupT (pa_cons (pe_tupT (pa_cons pe_str (pa_cons pe_str pa_nil))) (pa_cons (pe_tupT (pa_cons (pe_tupT (pa_cons (pe_tupT (pa_cons pe_int (pa_cons (pe_tupT (pa_cons (pe_tupT (pa_cons pe_int (pa_cons (pe_op op_mulC pe_str (pv 7)) pa_nil))) (pa_cons (pe_tupT (pa_cons (pe_op op_mulC pe_str (pv 7)) (pa_cons pe_int pa_nil))) pa_nil))) pa_nil))) pa_nil)) pa_nil)) (pa_cons (pe_tupT (pa_cons (pe_tupT (pa_cons pe_int (pa_cons pe_int pa_nil))) pa_nil)) pa_nil)))))
      (pss_cons (ps_if (pt_cmpR op_ne (pe_callB (call_repr gu hr.units) (by rfl) Br (by decide +kernel) (pa_cons (pe_c Cl hr (by decide) (by rfl) (pa_cons (pv 8) (pa_cons (pe_op op_repN (pe_tup (pa_cons pe_int pa_nil)) (pv 2)) pa_nil))) pa_nil)) (pe_callB (call_repr gu hr.units) (by rfl) Br (by decide +kernel) (pa_cons (pe_lim (pt_cmpR op_gt (pe_op op_mul (pe_op op_mul pe_int (pv 7)) (pv 2)) pe_int (nomark _)) pe_int pe_non) pa_nil)) (nomark _)) (pss_one (ps_ret pe_bl)) pss_nil)
      (pss_cons (ps_set (i := 9) sc_long54.nd rfl (Or.inl rfl) (pe_tupT (pa_cons (pv 3) (pa_cons (pe_tupT (pa_cons pe_int (pa_cons (pe_tupT (pa_cons (pe_tupT (pa_cons pe_int (pa_cons (pe_op op_mulC pe_str pe_int) pa_nil))) pa_nil)) pa_nil))) pa_nil))))
      (pss_cons (ps_set (i := 10) sc_long54.nd rfl (Or.inl rfl) (pe_tupT (pa_cons (pe_tupT (pa_cons pe_str pa_nil)) (pa_cons (pe_tupT (pa_cons (pv 9) (pa_cons (pe_tupT (pa_cons pe_non (pa_cons (pe_ix ix_tup (pv 9) pe_int (fun _ _ => rfl)) pa_nil))) pa_nil))) (pa_cons (pe_tupT (pa_cons (pe_tupT (pa_cons pe_int pa_nil)) (pa_cons pe_non pa_nil))) pa_nil)))))
      (pss_one (ps_ret (pe_and (pe_cmp (pc_isN (pe_c Cl hr (by decide) (by rfl) (pa_cons (pv 10) (pa_cons (pe_tupT (pa_cons pe_int (pa_cons pe_int (pa_cons pe_int (pa_cons pe_int pa_nil))))) pa_nil)))) rfl)
        (pe_one (pe_cmpR op_eq (pe_callB (call_repr gu hr.units) (by rfl) Br (by decide +kernel) (pa_cons (pe_c Cl hr (by decide) (by rfl) (pa_cons (pv 10) (pa_cons (pe_op op_repN (pe_tup (pa_cons pe_int pa_nil)) (pv 2)) pa_nil))) pa_nil)) (pe_callB (call_repr gu hr.units) (by rfl) Br (by decide +kernel) (pa_cons (pv 6) pa_nil)) (nomark _)))))))))))))))), ?_⟩
    refine ⟨_, rfl, p, c, 63, rfl, hP, by decide, by decide, fun d H1 d0 d1 k1 => ⟨_, _, rfl, rfl, _, rfl, p, c, 4, rfl, k1.pen, by decide, by decide, fun e H2 e0 e1 k2 => ⟨_, _, rfl, rfl, _, _, rfl, ?_⟩⟩⟩
    obtain ⟨d, rfl⟩ : ∃ n : Nat, d = (n : Int) := ⟨d.toNat, by omega⟩
    obtain ⟨e, rfl⟩ : ∃ n : Nat, e = (n : Int) := ⟨e.toNat, by omega⟩
    have d63 : d < 63 := by omega
    have e4 : e < 4 := by omega
    have n1 : 1 ≤ 59 + d := by omega
    have n121 : 59 + d ≤ 121 := by omega
    have l4 : (List.replicate (1 + e) 0).length ≤ 4 := by rw [List.length_replicate]; omega
    have z2 : ∀ m : Nat, ∀ i ∈ List.replicate m 0, i < 2 := fun m i hi => by rw [(List.mem_replicate.mp hi).2]; decide
    have kA := k1.trans k2
    -- grow, drop
    refine ⟨_, rfl, 97, 59 + d, lit_a, rfl, by omega, _, .cons (.int 0) (.cons (.str _) .nil), (by show 2 ≤ 100; decide), fun t1 G1 s1 a1 => ⟨_, .cons a1 .nil, (by show 1 ≤ 100; decide), fun t2 G2 s2 a2 => ⟨_, .cons (.int 0) (.cons a2 .nil), (by show 2 ≤ 100; decide), fun t3 G3 s3 a3 => ⟨_, .nil, (by show 0 ≤ 100; decide), fun t4 G4 s4 a4 => ⟨_, .cons a4 .nil, (by show 1 ≤ 100; decide), fun t5 G5 s5 a5 => ⟨_, .cons (.int 0) (.cons a5 .nil), (by show 2 ≤ 100; decide), fun t6 G6 s6 a6 => ⟨_, _, rfl, ?_⟩⟩⟩⟩⟩⟩⟩
    have kB := (((((kA.same s1).same s2).same s3).same s4).same s5).same s6
    have tg : Tp G6 (.ref t3) (entD (growE (59 + d))) := ((a3.mono (Same.tk s4)).mono (Same.tk s5)).mono (Same.tk s6)
    have td : Tp G6 (.ref t6) (entD dropE) := a6
    clear a1 a2 a3 a4 a5 a6
    -- the ring
    refine ⟨98, 60, lit_b, rfl, by decide, _, .cons (.str _) .nil, (by show 1 ≤ 100; decide), fun u1 H3 s1 a1 => ⟨_, rfl, _, rfl, _, .cons (tg.mono (Same.tk s1)) (.cons (td.mono (Same.tk s1)) .nil), (by show 2 ≤ 100; decide), fun u2 H4 s2 a2 => ⟨_, .cons a2 .nil, (by show 1 ≤ 100; decide), fun u3 H5 s3 a3 => ⟨_, .cons (.int 0) .nil, (by show 1 ≤ 100; decide), fun u4 H6 s4 a4 => ⟨_, .cons a4 .nil, (by show 1 ≤ 100; decide), fun u5 H7 s5 a5 =>
      ⟨_, .cons ((((a1.mono (Same.tk s2)).mono (Same.tk s3)).mono (Same.tk s4)).mono (Same.tk s5)) (.cons ((a3.mono (Same.tk s4)).mono (Same.tk s5)) (.cons a5 .nil)), (by show 3 ≤ 100; decide), fun u6 H8 s6 a6 => ?_⟩⟩⟩⟩⟩⟩
    have s16 := Same.trans (Same.trans (Same.trans (Same.trans (Same.trans s1 s2) s3) s4) s5) s6
    have kC := kB.same s16
    have tg8 := tg.mono (Same.tk s16)
    have tw8 : Tp H8 (.ref u6) (ringW (59 + d)).d := a6
    clear a1 a2 a3 a4 a5 a6 s1 s2 s3 s4 s5 s6 s16 tg td
    -- what is owed
    refine ⟨_, rfl, _, rfl, _, _, rfl, rfl, .inl ⟨by omega, by omega⟩, _, _, rfl, rfl, _, rfl, (1 + e) * (59 + d), lim_dec rfl rfl, ?_⟩
    -- the ring at the limit
    refine ⟨_, rfl, (by show 1 ≤ sizeLine; decide), fun q0 h0 => ⟨_, rfl, q0, 1 + e, [V.int 0], rfl, rfl, upd_same, (fun z => by cases z), by omega, (by show 1 ≤ 1000; decide), fun q H9 s9 hq => ?_⟩⟩
    have s89 := Same.trans (same_new (o := .tup [V.int 0]) h0) s9
    refine ⟨.ref u6, .ref q, ringW (59 + d), List.replicate (1 + e) 0, 2, 1, 1, rfl, tw8.mono (Same.tk s89), tp_word (by rw [hq]; exact congrArg some (congrArg HO.tup (rep_wd 0 (1 + e)))), ring_mt n1 n121 (z2 _) l4, fun m hm hle H10 s10 => ?_⟩
    rw [ring_lim n121 hm hle]
    refine ⟨_, limD _, 0, 100, rfl, (tp_lim _ _).dp, neat_lim _, by decide, by decide, _, rfl, _, limD _, 0, 100, rfl, (tp_lim _ _).dp, neat_lim _, by decide, by decide, ?_⟩
    generalize (limD ((1 + e) * (59 + d))).shown = zz
    refine ⟨rfl, _, rfl, iteF' (sameL _) ?_⟩
    have kD := kC.same (Same.trans s89 s10)
    have tgA := tg8.mono (Same.tk (Same.trans s89 s10))
    have twA := tw8.mono (Same.tk (Same.trans s89 s10))
    clear tg8 tw8 hm hle h0 hq s9 s89 s10
    -- the ring and what drops
    refine ⟨_, rfl, (by show 1 ≤ sizeLine; decide), fun q1 h1 => ⟨_, rfl, _, _, rfl, rfl, q1, e, [V.int 0], rfl, congrArg V.int (by show (1 : Int) + (e : Int) - 1 = (e : Int); omega), upd_same, (fun z => by cases z), by omega, (by show 1 ≤ 1000; decide), fun q2 H11 s11 hq => ⟨_, .cons (.int 1) .nil, (by show 1 ≤ 100; decide), fun q3 H12 s12 a3 => ?_⟩⟩⟩
    have sA := Same.trans (Same.trans (same_new (o := .tup [V.int 0]) h1) s11) s12
    have tq : Tp H12 (.ref q2) (wordD (List.replicate e 0)) := (tp_word (by rw [hq]; exact congrArg some (congrArg HO.tup (rep_wd 0 e)))).mono (Same.tk s12)
    refine cat_tp tq a3 (by unfold iN; rw [List.length_map, List.length_map, List.length_replicate]; omega) (by show 1 ≤ 10000; decide) fun v H13 s13 tv => ?_
    have sB := Same.trans sA s13
    have tv2 : Tp H13 v (wordD (List.replicate e 0 ++ [1])) := by
      unfold wordD iN
      rw [List.map_append, List.map_append]
      exact tv
    refine ⟨.ref u6, v, ringW (59 + d), List.replicate e 0 ++ [1], 2, 1, 1, rfl, twA.mono (Same.tk sB), tv2, ring_mt n1 n121 (fun i hi => ?_) (by rw [List.length_append, List.length_replicate, List.length_singleton]; omega), fun m hm hle H14 s14 => ?_⟩
    · rcases List.mem_append.mp hi with hi | hi
      · exact z2 _ i hi
      · rw [List.mem_singleton.mp hi]
        decide
    rw [ring_lim1 n121 hm]
    refine ⟨_, rfl, iteF' (by rw [decide_eq_true rfl]; rfl) ?_⟩
    have kE := kD.same (Same.trans sB s14)
    have tgB := tgA.mono (Same.tk (Same.trans sB s14))
    clear tgA twA hm hle h1 hq s11 s12 s13 s14 sA sB tq tv tv2 a3
    -- half, the pair
    refine ⟨_, rfl, 59 + d, 2, rfl, rfl, ⟨by decide, by decide⟩, ?_⟩
    have hh : (59 + d) / 2 ≤ 60 := by omega
    have hh1 : 1 ≤ (59 + d) / 2 := by omega
    generalize (59 + d) / 2 = hf at hh hh1 ⊢
    refine ⟨_, .cons (.str _) (.cons (.str _) .nil), (by show 2 ≤ 100; decide), fun u1 H3 s1 a1 => ⟨_, rfl, 97, hf, lit_a, rfl, by omega, _, .cons (.int 0) (.cons (.str _) .nil), (by show 2 ≤ 100; decide), fun u2 H4 s2 a2 => ⟨_, rfl, 98, hf, lit_b, rfl, by omega, _, .cons (.str _) (.cons (.int 1) .nil), (by show 2 ≤ 100; decide), fun u3 H5 s3 a3 =>
      ⟨_, .cons (a2.mono (Same.tk s3)) (.cons a3 .nil), (by show 2 ≤ 100; decide), fun u4 H6 s4 a4 => ⟨_, .cons (.int 0) (.cons a4 .nil), (by show 2 ≤ 100; decide), fun u5 H7 s5 a5 => ⟨_, .cons a5 .nil, (by show 1 ≤ 100; decide), fun u6 H8 s6 a6 => ⟨_, .cons a6 .nil, (by show 1 ≤ 100; decide), fun u7 H9 s7 a7 =>
      ⟨_, .cons (.int 0) (.cons (.int 1) .nil), (by show 2 ≤ 100; decide), fun u8 H10 s8 a8 => ⟨_, .cons a8 .nil, (by show 1 ≤ 100; decide), fun u9 H11 s9 a9 => ⟨_, .cons ((((((((a1.mono (Same.tk s2)).mono (Same.tk s3)).mono (Same.tk s4)).mono (Same.tk s5)).mono (Same.tk s6)).mono (Same.tk s7)).mono (Same.tk s8)).mono (Same.tk s9)) (.cons ((a7.mono (Same.tk s8)).mono (Same.tk s9)) (.cons a9 .nil)), (by show 3 ≤ 100; decide), fun u10 H12 s10 a10 => ?_⟩⟩⟩⟩⟩⟩⟩⟩⟩⟩
    have sC := Same.trans (Same.trans (Same.trans (Same.trans (Same.trans (Same.trans (Same.trans (Same.trans (Same.trans s1 s2) s3) s4) s5) s6) s7) s8) s9) s10
    have kF := kE.same sC
    have tgC := tgB.mono (Same.tk sC)
    have twC : Tp H12 (.ref u10) (pairW hf).d := a10
    clear a1 a2 a3 a4 a5 a6 a7 a8 a9 a10 s1 s2 s3 s4 s5 s6 s7 s8 s9 s10 sC tgB
    -- the pair at the limit
    refine ⟨_, rfl, (by show 1 ≤ sizeLine; decide), fun q0 h0 => ⟨_, rfl, q0, 1 + e, [V.int 0], rfl, rfl, upd_same, (fun z => by cases z), by omega, (by show 1 ≤ 1000; decide), fun q H13 s13 hq => ?_⟩⟩
    have sD := Same.trans (same_new (o := .tup [V.int 0]) h0) s13
    refine ⟨.ref u10, .ref q, pairW hf, List.replicate (1 + e) 0, 1, 1, 2, rfl, twC.mono (Same.tk sD), tp_word (by rw [hq]; exact congrArg some (congrArg HO.tup (rep_wd 0 (1 + e)))), pair_mt hh1 (by omega) (fun i hi => by rw [(List.mem_replicate.mp hi).2]; decide) l4, fun m hm hle H14 s14 => ?_⟩
    rw [pair_lim hh hm hle]
    refine ⟨_, limD _, 0, 100, rfl, (tp_lim _ _).dp, neat_lim _, by decide, by decide, ?_⟩
    refine ⟨_, rfl, _, _, rfl, rfl, .inl ⟨by decide, by decide⟩, _, rfl, _, _, rfl, rfl, .inl ⟨by omega, by omega⟩, _, _, rfl, rfl, _, rfl, (1 + e) * (2 * hf), lim_dec rfl rfl, ?_⟩
    refine ⟨_, limD _, 0, 100, rfl, (tp_lim _ _).dp, neat_lim _, by decide, by decide, ?_⟩
    generalize (limD ((1 + e) * (2 * hf))).shown = z3
    refine ⟨rfl, _, rfl, iteF' (sameL _) ?_⟩
    have kG := kF.same (Same.trans sD s14)
    have tgD := tgC.mono (Same.tk (Same.trans sD s14))
    clear tgC twC hm hle h0 hq s13 s14 sD
    -- two states
    refine ⟨_, rfl, 99, 60, lit_c, rfl, by decide, _, .cons (.int 0) (.cons (.str _) .nil), (by show 2 ≤ 100; decide), fun u1 H3 s1 a1 => ⟨_, .cons a1 .nil, (by show 1 ≤ 100; decide), fun u2 H4 s2 a2 => ⟨_, .cons (.int 1) (.cons a2 .nil), (by show 2 ≤ 100; decide), fun u3 H5 s3 a3 =>
      ⟨_, .cons (((tgD.mono (Same.tk s1)).mono (Same.tk s2)).mono (Same.tk s3)) (.cons a3 .nil), (by show 2 ≤ 100; decide), fun u4 H6 s4 a4 => ?_⟩⟩⟩⟩
    have sE := Same.trans (Same.trans (Same.trans s1 s2) s3) s4
    have kH := kG.same sE
    have a4' := a4
    obtain ⟨u4', xs, eu, r1, r2⟩ := a4'.tup_inv
    cases eu
    cases r2 with
    | @cons x1 xr _ _ tx1 r3 =>
    cases r3 with
    | @cons x2 xr2 _ _ tx2 r4 =>
    cases r4
    clear a1 a2 a3 s1 s2 s3 s4 sE tgD
    refine ⟨_, .cons (.str _) .nil, (by show 1 ≤ 100; decide), fun u5 H7 s5 a5 => ⟨_, rfl, _, rfl, u4, _, _, _, rfl, rfl, SqT.of (s5 _ _ r1), atI_nat (j := 1) rfl, _, .cons .non (.cons (tx2.mono (Same.tk s5)) .nil), (by show 2 ≤ 100; decide), fun u6 H8 s6 a6 => ⟨_, .cons ((a4.mono (Same.tk s5)).mono (Same.tk s6)) (.cons a6 .nil), (by show 2 ≤ 100; decide), fun u7 H9 s7 a7 =>
      ⟨_, .cons (.int 0) .nil, (by show 1 ≤ 100; decide), fun u8 H10 s8 a8 => ⟨_, .cons a8 (.cons .non .nil), (by show 2 ≤ 100; decide), fun u9 H11 s9 a9 => ⟨_, .cons ((((a5.mono (Same.tk s6)).mono (Same.tk s7)).mono (Same.tk s8)).mono (Same.tk s9)) (.cons ((a7.mono (Same.tk s8)).mono (Same.tk s9)) (.cons a9 .nil)), (by show 3 ≤ 100; decide), fun u10 H12 s10 a10 => ?_⟩⟩⟩⟩⟩⟩
    have kI := kH.same (Same.trans (Same.trans (Same.trans (Same.trans (Same.trans s5 s6) s7) s8) s9) s10)
    have twD : Tp H12 (.ref u10) (twiceW (59 + d)).d := a10
    clear a4 a5 a6 a7 a8 a9 a10 s5 s6 s7 s8 s9 s10 tx1 tx2
    refine ⟨_, rfl, _, .cons (.int 1) (.cons (.int 1) (.cons (.int 1) (.cons (.int 1) .nil))), (by show 4 ≤ 100; decide), fun w1 H13 s13 b1 => ⟨.ref u10, .ref w1, twiceW (59 + d), [1, 1, 1, 1], 2, 2, 1, rfl, twD.mono (Same.tk s13), b1, twice_mt n1 n121 (by decide) (by decide), fun m hm hle H14 s14 => ?_⟩⟩
    rw [twice_lim1 n121 hm]
    refine ⟨_, rfl, iteT' (decide_eq_true rfl) ?_⟩
    have kJ := kI.same (Same.trans s13 s14)
    have twE := twD.mono (Same.tk (Same.trans s13 s14))
    clear twD hm hle s13 s14 b1
    refine ⟨_, rfl, (by show 1 ≤ sizeLine; decide), fun q0 h0 => ⟨_, rfl, q0, 1 + e, [V.int 0], rfl, rfl, upd_same, (fun z => by cases z), by omega, (by show 1 ≤ 1000; decide), fun q H15 s15 hq => ?_⟩⟩
    have sF := Same.trans (same_new (o := .tup [V.int 0]) h0) s15
    refine ⟨.ref u10, .ref q, twiceW (59 + d), List.replicate (1 + e) 0, 2, 2, 1, rfl, twE.mono (Same.tk sF), tp_word (by rw [hq]; exact congrArg some (congrArg HO.tup (rep_wd 0 (1 + e)))), twice_mt n1 n121 (z2 _) l4, fun m hm hle H16 s16 => ?_⟩
    rw [twice_lim n121 (by omega) hm hle]
    refine ⟨_, limD _, 0, 100, rfl, (tp_lim _ _).dp, neat_lim _, by decide, by decide, _, rfl, _, limD _, 0, 100, rfl, (tp_lim _ _).dp, neat_lim _, by decide, by decide, ?_⟩
    generalize (limD ((1 + e) * (59 + d))).shown = z9
    refine ⟨rfl, ?_⟩
    have e9 : decide (V.str z9 = V.str z9) = true := decide_eq_true rfl
    rw [e9]
    exact k _ (kJ.same (Same.trans sF s16))
end

/-! ### the law of marked writers -/
def spLaw (K : PySem.W.Frag) : Sp := fun vs H Q _ => ∃ (a : Addr) (ns : List Int), vs = [.ref a] ∧ SqL K H a (ns.map V.int) ∧ ∀ H', Q (.bl true) H'
def nLaw54 : List Str := ["script", "pen", "turn", "kinds", "writer", "before", "lap", "word", "found", "some", "more"]
theorem sc_law : FnScope nLaw54 ["script"] (fnScope st_law_) := fnScope_by (by decide +kernel)
theorem sameM (z : Str) : (!decide (V.str z = V.str z)) = false := by
  rw [decide_eq_true rfl]
  rfl
theorem unm_len {k n : Nat} {ns : List Nat} (h : ns.length ≤ n) (h1 : 1 ≤ n) : ∀ l : List Nat, (unm k ns l).length ≤ n * l.length
  | [] => Nat.zero_le _
  | x :: l => by
    have ih := unm_len (k := k) h h1 l
    have h1 : ((if x = k then ns else [x]) : List Nat).length ≤ n := by
      by_cases c : x = k
      · rw [if_pos c]; exact h
      · rw [if_neg c]; exact h1
    unfold unm at ih ⊢
    rw [List.flatMap_cons, List.length_append, List.length_cons, Nat.mul_succ]
    omega
theorem unm_lt {k : Nat} {ns l : List Nat} (h : ∀ i ∈ ns, i < k) (hl : ∀ i ∈ l, i < k + 1) : ∀ i ∈ unm k ns l, i < k := fun i hi => by
  obtain ⟨x, hx, hi⟩ := List.mem_flatMap.mp hi
  by_cases c : x = k
  · rw [if_pos c] at hi
    exact h i hi
  · rw [if_neg c] at hi
    have := hl x hx
    rw [List.mem_singleton.mp hi]
    omega
section
variable {P : Program} {w : World} {K : PySem.W.Frag} {mg : Str → Option Value} {base : Heap} {f : Addr} {fd : FuncData}
set_option maxHeartbeats 20000000 in
theorem fn_law {C : Addr} (F : C8.Fun K "law" "law" st_law_ f fd) (B : BN2 mg) (Br : mg "repr" = none) (Bx : mg "max" = none) (Bn : mg "min" = none) (Cpen : Cal P w K mg base 1 "_law_pen" (spPen K) []) (Cd : Cal P w K mg base 2 "_law_draw" spDraw []) (Cw : Cal P w K mg base 7 "_law_writer" spWriterF [])
    (Cwd : Cal P w K mg base 3 "_law_word" spWord []) (Cm : CalX P w K mg base 5 "marked" (spMarked C)) (Clm : Cal P w K mg base 4 "_law_marked" spLMark []) (Ct : Cal P w K mg base 5 "text_for" spTell []) (Clt : Cal P w K mg base 4 "_law_told" spTell []) (Cu : Cal P w K mg base 1 "_law_unmarked" spUnm [])
    (Cl : CalG P w K mg base 7 "_law_long_right" spLong54) : FnG P w K mg base 8 f fd ["script"] (spLaw K) := by
  refine fnG_by F sc_law (fun vs H Q E h => ?_) (fun cdv A outer s H vs Q E gu hr h => ?_)
  · obtain ⟨a, ns, rfl, _⟩ := h
    rfl
  · obtain ⟨a, ns, rfl, hS, k⟩ := h
    refine ⟨_, pss_cons (ps_set (i := 1) sc_law.nd rfl (Or.inr rfl) (pe_c Cpen hr (by decide) (by rfl) (pa_cons (pv 0) pa_nil)))
      (pss_cons (ps_if (pt_not (pt_val (pe_g Cl gu hr (by decide) (by rfl) (pa_cons (pv 1) pa_nil)))) (pss_one (ps_ret pe_bl)) pss_nil)
      (pss_cons (ps_for PassesOwn.never rfl (pi_range1 rfl B.range (pa_cons (pe_callB (call_max2 rfl) (by rfl) Bx (by decide +kernel) (pa_cons pe_int (pa_cons (pe_callB (call_min2 rfl) (by rfl) Bn (by decide +kernel) (pa_cons pe_int (pa_cons (pe_callB call_len_seq (by rfl) B.len PySem.boot_len (pa_cons (pv 0) pa_nil)) pa_nil))) pa_nil))) pa_nil)) (pg_name (i := 2) sc_law.nd rfl (Or.inl rfl))
        (pss_cons (ps_set (i := 3) sc_law.nd rfl (Or.inr rfl) (pe_op op_add pe_int (pe_c Cd hr (by decide) (by rfl) (pa_cons (pv 1) (pa_cons pe_int pa_nil)))))
        (pss_cons (ps_set (i := 4) sc_law.nd rfl (Or.inl rfl) (pe_c Cw hr (by decide) (by rfl) (pa_cons (pv 1) (pa_cons (pv 3) (pa_cons pe_int (pa_cons pe_int pa_nil))))))
        (pss_cons (ps_set (i := 5) sc_law.nd rfl (Or.inl rfl) (pe_callB (call_repr gu hr.units) (by rfl) Br (by decide +kernel) (pa_cons (pv 4) pa_nil)))
        (pss_one (ps_for PassesOwn.never rfl (pi_range1 rfl B.range (pa_cons pe_int pa_nil)) (pg_name (i := 6) sc_law.nd rfl (Or.inl rfl))
          (pss_cons (ps_set (i := 7) sc_law.nd rfl (Or.inl rfl) (pe_c Cwd hr (by decide) (by rfl) (pa_cons (pv 1) (pa_cons (pv 3) (pa_cons pe_int pa_nil)))))
          (pss_cons (ps_set (i := 8) sc_law.nd rfl (Or.inl rfl) (pe_x0 Cm hr (by decide) (by rfl) (pa_cons (pv 4) (pa_cons (pv 7) pa_nil))))
          (pss_cons (ps_if (PW.pt (pw_or (pt_cmpR op_ne (pe_callB (call_repr gu hr.units) (by rfl) Br (by decide +kernel) (pa_cons (pv 8) pa_nil)) (pe_callB (call_repr gu hr.units) (by rfl) Br (by decide +kernel) (pa_cons (pe_c Clm hr (by decide) (by rfl) (pa_cons (pv 4) (pa_cons (pv 7) pa_nil))) pa_nil)) (nomark _))
              (pw_or1 (pt_cmpR op_ne (pe_callB (call_repr gu hr.units) (by rfl) Br (by decide +kernel) (pa_cons (pv 4) pa_nil)) (pv 5) (nomark _))))) (pss_one (ps_ret pe_bl)) pss_nil)
          (pss_one (ps_for PassesOwn.never rfl (pi_list (pe_op op_cat (pe_lst (pa_cons (pe_tup (pa_cons (pv 3) pa_nil)) (pa_cons (pe_tup (pa_cons (pv 3) (pa_cons (pv 3) pa_nil))) pa_nil)))
              (pe_lc (own := [("more", 10)]) (g := gName 10) (tt := tYes) (by rfl) sc_law.nd (pi_range1 rfl B.range (pa_cons pe_int pa_nil))
                (blkOk_by (own := [("more", 10)]) (N := nLaw54) (sc := fnScope st_law_) (by decide +kernel)) (fun _ _ _ _ _ => pg_name (i := 10) sc_law.nd rfl (Or.inl rfl)) (fun _ _ _ _ _ => pts_nil)
                (fun _ _ _ _ _ => pe_c Cwd hr (by decide) (by rfl) (pa_cons (pv 1) (pa_cons (pe_op op_add (pv 3) pe_int) (pa_cons pe_int pa_nil))))))) (pg_name (i := 9) sc_law.nd rfl (Or.inl rfl))
            (pss_one (ps_if (pt_cmpR op_ne (pe_callB (call_repr gu hr.units) (by rfl) Br (by decide +kernel) (pa_cons (pe_c Ct hr (by decide) (by rfl) (pa_cons (pv 8) (pa_cons (pv 9) pa_nil))) pa_nil))
              (pe_callB (call_repr gu hr.units) (by rfl) Br (by decide +kernel) (pa_cons (pe_c Clt hr (by decide) (by rfl) (pa_cons (pv 4) (pa_cons (pe_c Cu hr (by decide) (by rfl) (pa_cons (pv 9) (pa_cons (pv 3) (pa_cons (pv 7) pa_nil)))) pa_nil))) pa_nil)) (nomark _)) (pss_one (ps_ret pe_bl)) pss_nil)))))))))))))
      (pss_one (ps_ret pe_bl)))), ?_⟩
    refine ⟨_, rfl, a, ns, rfl, hS, fun H1 p c s1 hP p0 => ?_⟩
    refine ⟨_, rfl, p, c, rfl, hP, fun H1' kL => ⟨_, rfl, iteF ?_⟩⟩
    have hS1 : SqL K H1' a (ns.map V.int) := by
      rcases hS with (z | ⟨o, z⟩) | z
      · exact .inl (.inl (kL.but _ _ (ne_of_none z p0) (s1 _ _ z)))
      · exact .inl (.inr ⟨o, kL.but _ _ (ne_of_none z p0) (s1 _ _ z)⟩)
      · exact .inr z
    refine ⟨_, rfl, a, _, rfl, .inl hS1, _, _, rfl, _, _, rfl, _, rfl, ?_, ?_, for_range (fun i σ H' => (∃ v2 v3 v4 v5 v6 v7 v8 v9 : Option V, σ = [some (.ref a), some (.ref p), v2, v3, v4, v5, v6, v7, v8, v9, none]) ∧ Pen H' p c) ⟨⟨_, _, _, _, _, _, _, _, rfl⟩, kL.pen⟩ ?_ ?_⟩
    · split <;> split <;> omega
    · split <;> split <;> omega
    · rintro i σ H2 hi ⟨⟨v2, v3, v4, v5, v6, v7, v8, v9, rfl⟩, hP2⟩
      refine ⟨_, rfl, p, c, 3, rfl, hP2, by decide, by decide, fun d H3 d0 d1 k3 => ⟨_, _, rfl, rfl, ?_⟩⟩
      obtain ⟨kk, hk⟩ : ∃ kk : Nat, 1 + d = (kk : Int) := ⟨(1 + d).toNat, by omega⟩
      have k13 : 1 ≤ kk ∧ kk ≤ 3 := by omega
      show gName 3 (V.int (1 + d)) _ _ _
      rw [hk]
      refine ⟨_, rfl, _, rfl, p, c, kk, 3, 3, rfl, k3.pen, by omega, by decide, by decide, by decide, by decide, fun W S Bf t H4 S1 S3 B1 B3 hW _ hT k4 tW => ?_⟩
      have nW := neat_W hW (by omega) (by omega) B3
      refine ⟨_, rfl, _, W.d, 6, 40000, rfl, tW.dp, nW, by decide, by decide, ?_⟩
      have hP4 := k4.pen
      refine ⟨3, rfl, by decide, by decide, for_range (n := 3) (fun j σ H' => (∃ v6 v7 v8 v9 : Option V, σ = [some (.ref a), some (.ref p), some (.int (0 + (i : Int))), some (.int kk), some (.ref t), some (.str W.d.shown), v6, v7, v8, v9, none]) ∧ Kp p c H4 H') ⟨⟨_, _, _, _, rfl⟩, Kp.rfl' hP4⟩ ?_ ?_⟩
      · rintro j σ H5 hj ⟨⟨v6', v7', v8', v9', rfl⟩, k5⟩
        refine ⟨_, rfl, _, rfl, p, c, kk, 4, rfl, k5.pen, by omega, by omega, by decide, fun ks wt H6 wd k6 w0 hwt => ?_⟩
        obtain ⟨n1, rfl, l1, b1⟩ := iN_nat wd
        have hn : ∀ i ∈ n1, i < kk := fun y hy => by have := b1 y hy; omega
        have M := drawn_mt hW hT S1 (by omega) B1 B3 (by omega) hn l1
        have nm := neat_mark hW hT (by omega) (by omega) B3 hn l1
        have bg := mark_big hW hT B3 hn l1
        have kA := k5.trans k6
        have tW6 := tW.mono (kA.tk hP4)
        have tw6 := tp_word hwt
        refine ⟨_, rfl, _, rfl, .ref t, .ref wt, W, n1, kk, S, Bf, rfl, tW6, tw6, M.1, fun m hm hle => ⟨fun _ fv H7 s7 tf => ?_, fun gt => absurd (M.2 m hm) (by omega)⟩⟩
        have tW7 := tW6.mono (Same.tk s7)
        have tw7 := tw6.mono (Same.tk s7)
        refine ⟨_, rfl, _, _, 6, 80000, rfl, tf.dp, nm, by decide, by decide, ?_⟩
        refine ⟨_, rfl, _, rfl, .ref t, .ref wt, W, n1, kk, S, Bf, rfl, tW7, tw7, M.1, fun v2' H8 s8 tv2 => ⟨_, _, 6, 80000, rfl, tv2.dp, nm, by decide, by decide, ?_⟩⟩
        generalize (markW W n1).d.shown = zz
        refine ⟨rfl, _, rfl, iteF' (sameM _) ?_⟩
        refine ⟨_, rfl, _, W.d, 6, 40000, rfl, (tW7.mono (Same.tk s8)).dp, nW, by decide, by decide, ?_⟩
        refine ⟨_, rfl, rfl, _, rfl, iteF' (sameM _) ?_⟩
        have k8 := (kA.same s7).same s8
        refine ⟨_, rfl, (by show 1 ≤ sizeLine; decide), fun q1 h1 => ⟨_, rfl, _, rfl, (by show 2 ≤ sizeLine; decide), fun q2 h2 => ⟨(by show 2 ≤ sizeLine; decide), fun lb h3 => ?_⟩⟩⟩
        have e1 : wordD [kk] = .tuple [.int kk] := rfl
        have e2 : wordD [kk, kk] = .tuple [.int kk, .int kk] := rfl
        have a1 := tpn (H := H8) (xs := [V.int kk]) (ds := [.int kk]) (.cons (.int _) .nil) h1
        have a2 := tpn (xs := [V.int kk, .int kk]) (ds := [.int kk, .int kk]) (.cons (.int _) (.cons (.int _) .nil)) h2
        have k9 := ((k8.new (o := .tup [.int kk]) h1).new (o := .tup [.int kk, .int kk]) h2).new (o := .lst [.ref q1, .ref q2]) h3
        have s9 := Same.trans (Same.trans (same_new (o := .tup [.int kk]) h1) (same_new (o := .tup [.int kk, .int kk]) h2)) (same_new (o := .lst [.ref q1, .ref q2]) h3)
        have L9 : LAt (upd (upd (upd H8 q1 (.tup [.int kk])) q2 (.tup [.int kk, .int kk])) lb (.lst [.ref q1, .ref q2])) lb [wordD [kk], wordD [kk, kk]] :=
          ⟨_, upd_same, .cons ((a1.mono (tk_new h2)).mono (tk_new h3)) (.cons (a2.mono (tk_new h3)) .nil)⟩
        have nlb : lb ≠ p := ((k8.new (o := .tup [.int kk]) h1).new (o := .tup [.int kk, .int kk]) h2).pen.ne h3
        have tf9 := tf.mono (Same.tk (Same.trans s8 s9))
        have tW9 := tW7.mono (Same.tk (Same.trans s8 s9))
        have tw9 := tw7.mono (Same.tk (Same.trans s8 s9))
        generalize upd (upd (upd H8 q1 (.tup [.int kk])) q2 (.tup [.int kk, .int kk])) lb (.lst [.ref q1, .ref q2]) = H9 at k9 L9 tf9 tW9 tw9 ⊢
        have hP9 := k9.pen
        refine ⟨3, rfl, by decide, by decide, fun D hD => ?_⟩
        have nD : D ≠ p := hP9.ne hD
        refine lc_range (lo := 0) (n := 3) (fun j H' => Kp p c H9 H' ∧ ∃ wds : List (List Nat), wds.length = j ∧ LAt H' D (wds.map wordD) ∧ ∀ u ∈ wds, (∀ y ∈ u, y < kk + 1) ∧ u.length ≤ 5) ⟨(Kp.rfl' hP9).new hD, [], rfl, ⟨[], upd_same, .nil⟩, fun u hu => (by cases hu)⟩ ?_ ?_
        · rintro jj H10 hjj ⟨k10, wds, wl, hL, hw⟩
          refine ⟨rfl, _, rfl, _, rfl, _, _, rfl, rfl, p, c, (kk : Int) + 1, 5, rfl, k10.pen, by omega, by omega, by decide, fun ks wt2 H11 wd2 k11 w20 hwt2 => ?_⟩
          obtain ⟨n2, rfl, l2, b2⟩ := iN_nat wd2
          obtain ⟨us, hu, au⟩ := hL.kp nD k10.pen k11
          refine ⟨us, hu, ?_, (k10.trans k11).put hP9 hD, wds ++ [n2], by rw [List.length_append, wl]; rfl, ?_, ?_⟩
          · rw [au.len, List.length_map, wl]
            exact Nat.lt_trans hjj (by decide)
          · rw [List.map_append]
            exact LAt.push hu au (tp_word hwt2)
          · intro u hm
            rcases List.mem_append.mp hm with hm | hm
            · exact hw u hm
            · rw [List.mem_singleton.mp hm]
              exact ⟨fun y hy => by have := b2 y hy; omega, l2⟩
        rintro H10 ⟨k10, wds, wl, hL, hw⟩
        obtain ⟨us, hu, au⟩ := hL
        obtain ⟨zs, hz, az⟩ := L9.kp nlb hP9 k10
        have lu : us.length = 3 := by rw [au.len, List.length_map, wl]
        have lz : zs.length = 2 := by rw [az.len]; rfl
        refine ⟨lb, D, zs, us, rfl, rfl, hz, hu, Nat.le_trans (show zs.length + us.length ≤ 200 by omega) (by decide), fun lc hlc => ?_⟩
        have sc := same_new (o := .lst (zs ++ us)) hlc
        have k11 := k10.same sc
        have hlcv : upd H10 lc (.lst (zs ++ us)) lc = some (.lst (zs ++ us)) := upd_same
        have auA : TpAll (upd H10 lc (.lst (zs ++ us))) (zs ++ us) (([[kk], [kk, kk]] ++ wds).map wordD) := by
          rw [List.map_append]
          exact (az.mono (Same.tk sc)).app (au.mono (Same.tk sc))
        have hwa : ∀ u ∈ [[kk], [kk, kk]] ++ wds, (∀ y ∈ u, y < kk + 1) ∧ u.length ≤ 5 := fun u hm => by
          rcases List.mem_append.mp hm with hm | hm
          · rcases List.mem_cons.mp hm with rfl | hm
            · exact ⟨fun y hy => by rw [List.mem_singleton.mp hy]; omega, (by show 1 ≤ 5; decide)⟩
            · obtain rfl := List.mem_singleton.mp hm
              refine ⟨fun y hy => ?_, (by show 2 ≤ 5; decide)⟩
              rcases List.mem_cons.mp hy with rfl | hy
              · omega
              · rw [List.mem_singleton.mp hy]; omega
          · exact hw u hm
        generalize [[kk], [kk, kk]] ++ wds = wa at auA hwa
        have tfB := tf9.mono (k11.tk hP9)
        have tWB := tW9.mono (k11.tk hP9)
        have twB := tw9.mono (k11.tk hP9)
        have kB := k9.trans k11
        generalize upd H10 lc (.lst (zs ++ us)) = HB at hlcv auA tfB tWB twB kB
        refine ⟨lc, rfl, ⟨_, SqL.of hlcv⟩, for_list (K := K) (a := lc) (xs := zs ++ us) (fun jj σ H' => (∃ v9 : Option V, σ = [some (.ref a), some (.ref p), some (.int (0 + (i : Int))), some (.int kk), some (.ref t), some (.str W.d.shown), some (.int (0 + (j : Int))), some (.ref wt), some fv, v9, none]) ∧ Same HB H') ⟨⟨_, rfl⟩, Same.refl HB⟩ (fun jj σ H' _ h => SqL.of (h.2 _ _ hlcv)) ?_ ?_⟩
        · rintro jj x σ H12 hjj ⟨⟨v9'', rfl⟩, s12⟩
          have jlt : jj < wa.length := by
            have q := (List.getElem?_eq_some_iff.mp hjj).1
            rw [auA.len, List.length_map] at q
            exact q
          obtain ⟨x', hx', tx⟩ := auA.at (List.getElem?_eq_getElem jlt)
          rw [hjj] at hx'
          cases hx'
          obtain ⟨c1, c2⟩ := hwa _ (List.getElem_mem jlt)
          generalize wa[jj] = u at tx c1 c2
          have e := mark_tell hW.big S1 hn (some' := u) (fun y hy => by have := c1 y hy; omega)
          have ul := unm_lt hn c1
          have uk : (unm kk n1 u).length ≤ 30 := by
            have := unm_len (k := kk) l1 (by decide) u
            omega
          have nt := neat_txt hW.big S1 B3 ul uk
          refine ⟨_, rfl, _, rfl, fv, x, markW W n1, u, kk + 1, S, Bf, rfl, tfB.mono (Same.tk s12), tx.mono (Same.tk s12), bg, S1, B3, c1, by omega, fun v1 H13 s13 y1 => ?_⟩
          rw [e] at y1
          refine ⟨v1, _, _, _, rfl, y1.dp, nt, by decide, by decide, ?_⟩
          have s123 := Same.trans s12 s13
          refine ⟨_, rfl, _, rfl, _, rfl, _, rfl, x, .ref wt, kk, u, n1, rfl, tx.mono (Same.tk s123), twB.mono (Same.tk s123), by omega, by omega, fun v2' H14 s14 y2 => ?_⟩
          have s124 := Same.trans s123 s14
          refine ⟨.ref t, v2', W, unm kk n1 u, kk, S, Bf, rfl, tWB.mono (Same.tk s124), y2, hW.big, S1, B3, ul, uk, fun v3' H15 s15 y3 => ?_⟩
          refine ⟨v3', _, _, _, rfl, y3.dp, nt, by decide, by decide, ?_⟩
          generalize (txtD (tellW W (unm kk n1 u))).shown = zt
          refine ⟨rfl, _, rfl, iteF' (sameM _) ?_⟩
          exact ⟨⟨_, rfl⟩, Same.trans s124 s15⟩
        · rintro σ H12 ⟨⟨v9'', rfl⟩, s12⟩
          exact ⟨⟨_, _, _, _, rfl⟩, kB.same s12⟩
      · rintro σ H5 ⟨⟨v6', v7', v8', v9', rfl⟩, k5⟩
        exact ⟨⟨_, _, _, _, _, _, _, _, rfl⟩, k5.pen⟩
    · rintro σ H2 ⟨⟨v2, v3, v4, v5, v6, v7, v8, v9, rfl⟩, hP2⟩
      exact k _
end

/-! ### an own error's class, as the top has written it -/
section
variable {K : PySem.W.Frag} {C N : Addr} {nm q : Str} {bs bm : List Value} {sn : List Str} {sub : List Value} {ab : Bool} {col : Option Bool} {dd : Option Addr} {m0 m1 m2 m3 m5 : Option Value} {B : String}
theorem excInit_at (h : K.lookup C = some (PySem.excClassObj nm q C N bs bm true sn sub ab col dd m0 m1 m2 m3 m5 B)) (t : PySem.W.excTail bm bm = true) : PySem.W.excInitIn K C bm B = true := by
  unfold PySem.W.excInitIn
  rw [h]
  show ((C == C && B == B) && !false && PySem.W.excTail bm bm) = true
  rw [t, beq_self_eq_true, beq_self_eq_true]
  rfl
theorem excOver_at (h : K.lookup C = some (PySem.excClassObj nm q C N bs bm true sn sub ab col dd m0 m1 m2 m3 m5 B)) (t : PySem.W.excTail bm bm = true) : PySem.W.excOver K C bm = true := by
  unfold PySem.W.excOver PySem.W.clsIn
  rw [h]
  show (C == C && PySem.W.excTail bm bm) = true
  rw [t, beq_self_eq_true]
  rfl
theorem exm_at {S : Addr} (h1 : PySem.W.subIn K (.ref S) (.type "BaseException") = some true) (h2 : PySem.W.isClsIn K S = true) (h3 : PySem.W.typeIn K (.ref S) = some (.type "type")) (h4 : PySem.W.subIn K (.ref S) (.ref S) = some true) : PySem.W.exmOne K (.ref S) (.ref S) = some true := by
  have e2 : ((PySem.W.clsIn K S).isSome && PySem.W.typeIn K (.ref S) == some (.type "type")) = true := by
    rw [show (PySem.W.clsIn K S).isSome = true from h2, h3] <;> rfl
  unfold PySem.W.exmOne PySem.W.kitCls
  rw [h1]
  show (if ((some true : Option Bool) == some true) = true then (if ((PySem.W.clsIn K S).isSome && PySem.W.typeIn K (.ref S) == some (.type "type")) = true then PySem.W.subIn K (.ref S) (.ref S) else none) else none) = some true
  rw [if_pos (show ((some true : Option Bool) == some true) = true by decide), if_pos e2]
  exact h4
end

/-! ### what the top has written, the head -/
theorem all_mk {l : PySem.W.OpenLaw} {w : World} {K : PySem.W.Frag} {h : Heap} {mg : Str → Option Value} {fa f0 f1 f2 f3 f4 f5 f6 f7 f8 f9 f10 f11 f12 f13 f14 f15 f16 f17 f18 f19 f20 f21 f22 f23 f24 f25 f26 f27 f28 f29 f30 f31 f32 f33 f34 : Addr} (X : K.In h) (G : h.Ns mainGlobals mg) (named : mg "law" = some (.ref fa))
    {od0 an0 od1 an1 od2 an2 od3 an3 od4 an4 od5 an5 od6 an6 od7 an7 od8 an8 od9 an9 od10 an10 od11 an11 od12 an12 od13 an13 od14 an14 od15 an15 od16 an16 od17 an17 od18 an18 od19 an19 od20 an20 od21 an21 od22 an22 od23 an23 od24 an24 od25 an25 od26 an26 od27 an27 od28 an28 od29 an29 od30 an30 od31 an31 od32 an32 od33 an33 od34 an34 : Option Addr} {sl0 sl1 sl2 sl3 sl4 sl5 sl6 sl7 sl8 sl9 sl10 sl11 sl12 sl13 sl14 sl15 sl16 sl17 sl18 sl19 sl20 sl21 sl22 sl23 sl24 sl25 sl26 sl27 sl28 sl29 sl30 sl31 sl32 sl33 sl34 : Array (Option Value)} {oc0 kV0 dc0 pm0 cd0 ct0 oc1 kV1 dc1 pm1 cd1 ct1 oc2 kV2 dc2 pm2 cd2 ct2 oc3 kV3 dc3 pm3 cd3 ct3 oc4 kV4 dc4 pm4 cd4 ct4 oc5 kV5 dc5 pm5 cd5 ct5 oc6 kV6 dc6 pm6 cd6 ct6 oc7 kV7 dc7 pm7 cd7 ct7 oc8 kV8 dc8 pm8 cd8 ct8 oc9 kV9 dc9 pm9 cd9 ct9 oc10 kV10 dc10 pm10 cd10 ct10 oc11 kV11 dc11 pm11 cd11 ct11 oc12 kV12 dc12 pm12 cd12 ct12 oc13 kV13 dc13 pm13 cd13 ct13 oc14 kV14 dc14 pm14 cd14 ct14 oc15 kV15 dc15 pm15 cd15 ct15 oc16 kV16 dc16 pm16 cd16 ct16 oc17 kV17 dc17 pm17 cd17 ct17 oc18 kV18 dc18 pm18 cd18 ct18 oc19 kV19 dc19 pm19 cd19 ct19 oc20 kV20 dc20 pm20 cd20 ct20 oc21 kV21 dc21 pm21 cd21 ct21 oc22 kV22 dc22 pm22 cd22 ct22 oc23 kV23 dc23 pm23 cd23 ct23 oc24 kV24 dc24 pm24 cd24 ct24 oc25 kV25 dc25 pm25 cd25 ct25 oc26 kV26 dc26 pm26 cd26 ct26 oc27 kV27 dc27 pm27 cd27 ct27 oc28 kV28 dc28 pm28 cd28 ct28 oc29 kV29 dc29 pm29 cd29 ct29 oc30 kV30 dc30 pm30 cd30 ct30 oc31 kV31 dc31 pm31 cd31 ct31 oc32 kV32 dc32 pm32 cd32 ct32 oc33 kV33 dc33 pm33 cd33 ct33 oc34 kV34 dc34 pm34 cd34 ct34 : Value}
    (a0 : PySem.W.nsIn K mainGlobals "most_letters" = some (some (.ref f0))) (l0 : K.lookup f0 = some ⟨oc0, od0, .func (PySem.W.fnOf "most_letters" "most_letters" (C8.fnArgs st_most_letters_) (fnBody st_most_letters_) (fnScope st_most_letters_) .none kV0 dc0 pm0 an0 cd0 ct0), sl0⟩) (c0 : PySem.W.codeIn K cd0 "most_letters" = true) (k0 : PySem.W.keepIn K (.ref f0) = true)
    (a1 : PySem.W.nsIn K mainGlobals "joined" = some (some (.ref f1))) (l1 : K.lookup f1 = some ⟨oc1, od1, .func (PySem.W.fnOf "joined" "joined" (C8.fnArgs st_joined_) (fnBody st_joined_) (fnScope st_joined_) .none kV1 dc1 pm1 an1 cd1 ct1), sl1⟩) (c1 : PySem.W.codeIn K cd1 "joined" = true) (k1 : PySem.W.keepIn K (.ref f1) = true)
    (a2 : PySem.W.nsIn K mainGlobals "letters_in" = some (some (.ref f2))) (l2 : K.lookup f2 = some ⟨oc2, od2, .func (PySem.W.fnOf "letters_in" "letters_in" (C8.fnArgs st_letters_in_) (fnBody st_letters_in_) (fnScope st_letters_in_) .none kV2 dc2 pm2 an2 cd2 ct2), sl2⟩) (c2 : PySem.W.codeIn K cd2 "letters_in" = true) (k2 : PySem.W.keepIn K (.ref f2) = true)
    (a3 : PySem.W.nsIn K mainGlobals "entry_along" = some (some (.ref f3))) (l3 : K.lookup f3 = some ⟨oc3, od3, .func (PySem.W.fnOf "entry_along" "entry_along" (C8.fnArgs st_entry_along_) (fnBody st_entry_along_) (fnScope st_entry_along_) .none kV3 dc3 pm3 an3 cd3 ct3), sl3⟩) (c3 : PySem.W.codeIn K cd3 "entry_along" = true) (k3 : PySem.W.keepIn K (.ref f3) = true)
    (a4 : PySem.W.nsIn K mainGlobals "own_fills" = some (some (.ref f4))) (l4 : K.lookup f4 = some ⟨oc4, od4, .func (PySem.W.fnOf "own_fills" "own_fills" (C8.fnArgs st_own_fills_) (fnBody st_own_fills_) (fnScope st_own_fills_) .none kV4 dc4 pm4 an4 cd4 ct4), sl4⟩) (c4 : PySem.W.codeIn K cd4 "own_fills" = true) (k4 : PySem.W.keepIn K (.ref f4) = true)
    (a5 : PySem.W.nsIn K mainGlobals "put_in" = some (some (.ref f5))) (l5 : K.lookup f5 = some ⟨oc5, od5, .func (PySem.W.fnOf "put_in" "put_in" (C8.fnArgs st_put_in_) (fnBody st_put_in_) (fnScope st_put_in_) .none kV5 dc5 pm5 an5 cd5 ct5), sl5⟩) (c5 : PySem.W.codeIn K cd5 "put_in" = true) (k5 : PySem.W.keepIn K (.ref f5) = true)
    (a6 : PySem.W.nsIn K mainGlobals "require_bounds" = some (some (.ref f6))) (l6 : K.lookup f6 = some ⟨oc6, od6, .func (PySem.W.fnOf "require_bounds" "require_bounds" (C8.fnArgs st_require_bounds_) (fnBody st_require_bounds_) (fnScope st_require_bounds_) .none kV6 dc6 pm6 an6 cd6 ct6), sl6⟩) (c6 : PySem.W.codeIn K cd6 "require_bounds" = true) (k6 : PySem.W.keepIn K (.ref f6) = true)
    (a7 : PySem.W.nsIn K mainGlobals "text_for" = some (some (.ref f7))) (l7 : K.lookup f7 = some ⟨oc7, od7, .func (PySem.W.fnOf "text_for" "text_for" (C8.fnArgs st_text_for_) (fnBody st_text_for_) (fnScope st_text_for_) .none kV7 dc7 pm7 an7 cd7 ct7), sl7⟩) (c7 : PySem.W.codeIn K cd7 "text_for" = true) (k7 : PySem.W.keepIn K (.ref f7) = true)
    (a8 : PySem.W.nsIn K mainGlobals "behind_from" = some (some (.ref f8))) (l8 : K.lookup f8 = some ⟨oc8, od8, .func (PySem.W.fnOf "behind_from" "behind_from" (C8.fnArgs st_behind_from_) (fnBody st_behind_from_) (fnScope st_behind_from_) .none kV8 dc8 pm8 an8 cd8 ct8), sl8⟩) (c8 : PySem.W.codeIn K cd8 "behind_from" = true) (k8 : PySem.W.keepIn K (.ref f8) = true)
    (a9 : PySem.W.nsIn K mainGlobals "text_from" = some (some (.ref f9))) (l9 : K.lookup f9 = some ⟨oc9, od9, .func (PySem.W.fnOf "text_from" "text_from" (C8.fnArgs st_text_from_) (fnBody st_text_from_) (fnScope st_text_from_) .none kV9 dc9 pm9 an9 cd9 ct9), sl9⟩) (c9 : PySem.W.codeIn K cd9 "text_from" = true) (k9 : PySem.W.keepIn K (.ref f9) = true)
    (a10 : PySem.W.nsIn K mainGlobals "_filled" = some (some (.ref f10))) (l10 : K.lookup f10 = some ⟨oc10, od10, .func (PySem.W.fnOf "_filled" "_filled" (C8.fnArgs st_filled) (fnBody st_filled) (fnScope st_filled) .none kV10 dc10 pm10 an10 cd10 ct10), sl10⟩) (c10 : PySem.W.codeIn K cd10 "_filled" = true) (k10 : PySem.W.keepIn K (.ref f10) = true)
    (a11 : PySem.W.nsIn K mainGlobals "_made" = some (some (.ref f11))) (l11 : K.lookup f11 = some ⟨oc11, od11, .func (PySem.W.fnOf "_made" "_made" (C8.fnArgs st_made) (fnBody st_made) (fnScope st_made) .none kV11 dc11 pm11 an11 cd11 ct11), sl11⟩) (c11 : PySem.W.codeIn K cd11 "_made" = true) (k11 : PySem.W.keepIn K (.ref f11) = true)
    (a12 : PySem.W.nsIn K mainGlobals "marked" = some (some (.ref f12))) (l12 : K.lookup f12 = some ⟨oc12, od12, .func (PySem.W.fnOf "marked" "marked" (C8.fnArgs st_marked_) (fnBody st_marked_) (fnScope st_marked_) .none kV12 dc12 pm12 an12 cd12 ct12), sl12⟩) (c12 : PySem.W.codeIn K cd12 "marked" = true) (k12 : PySem.W.keepIn K (.ref f12) = true)
    (a13 : PySem.W.nsIn K mainGlobals "_law_pen" = some (some (.ref f13))) (l13 : K.lookup f13 = some ⟨oc13, od13, .func (PySem.W.fnOf "_law_pen" "_law_pen" (C8.fnArgs st_law_pen) (fnBody st_law_pen) (fnScope st_law_pen) .none kV13 dc13 pm13 an13 cd13 ct13), sl13⟩) (c13 : PySem.W.codeIn K cd13 "_law_pen" = true) (k13 : PySem.W.keepIn K (.ref f13) = true)
    (a14 : PySem.W.nsIn K mainGlobals "_law_fresh" = some (some (.ref f14))) (l14 : K.lookup f14 = some ⟨oc14, od14, .func (PySem.W.fnOf "_law_fresh" "_law_fresh" (C8.fnArgs st_law_fresh) (fnBody st_law_fresh) (fnScope st_law_fresh) .none kV14 dc14 pm14 an14 cd14 ct14), sl14⟩) (c14 : PySem.W.codeIn K cd14 "_law_fresh" = true) (k14 : PySem.W.keepIn K (.ref f14) = true)
    (a15 : PySem.W.nsIn K mainGlobals "_law_draw" = some (some (.ref f15))) (l15 : K.lookup f15 = some ⟨oc15, od15, .func (PySem.W.fnOf "_law_draw" "_law_draw" (C8.fnArgs st_law_draw) (fnBody st_law_draw) (fnScope st_law_draw) .none kV15 dc15 pm15 an15 cd15 ct15), sl15⟩) (c15 : PySem.W.codeIn K cd15 "_law_draw" = true) (k15 : PySem.W.keepIn K (.ref f15) = true)
    (a16 : PySem.W.nsIn K mainGlobals "_law_one_of" = some (some (.ref f16))) (l16 : K.lookup f16 = some ⟨oc16, od16, .func (PySem.W.fnOf "_law_one_of" "_law_one_of" (C8.fnArgs st_law_one_of) (fnBody st_law_one_of) (fnScope st_law_one_of) .none kV16 dc16 pm16 an16 cd16 ct16), sl16⟩) (c16 : PySem.W.codeIn K cd16 "_law_one_of" = true) (k16 : PySem.W.keepIn K (.ref f16) = true)
    (a17 : PySem.W.nsIn K mainGlobals "_law_piece" = some (some (.ref f17))) (l17 : K.lookup f17 = some ⟨oc17, od17, .func (PySem.W.fnOf "_law_piece" "_law_piece" (C8.fnArgs st_law_piece) (fnBody st_law_piece) (fnScope st_law_piece) .none kV17 dc17 pm17 an17 cd17 ct17), sl17⟩) (c17 : PySem.W.codeIn K cd17 "_law_piece" = true) (k17 : PySem.W.keepIn K (.ref f17) = true)
    (a18 : PySem.W.nsIn K mainGlobals "_law_normal" = some (some (.ref f18))) (l18 : K.lookup f18 = some ⟨oc18, od18, .func (PySem.W.fnOf "_law_normal" "_law_normal" (C8.fnArgs st_law_normal) (fnBody st_law_normal) (fnScope st_law_normal) .none kV18 dc18 pm18 an18 cd18 ct18), sl18⟩) (c18 : PySem.W.codeIn K cd18 "_law_normal" = true) (k18 : PySem.W.keepIn K (.ref f18) = true)
    (a19 : PySem.W.nsIn K mainGlobals "_law_fill" = some (some (.ref f19))) (l19 : K.lookup f19 = some ⟨oc19, od19, .func (PySem.W.fnOf "_law_fill" "_law_fill" (C8.fnArgs st_law_fill) (fnBody st_law_fill) (fnScope st_law_fill) .none kV19 dc19 pm19 an19 cd19 ct19), sl19⟩) (c19 : PySem.W.codeIn K cd19 "_law_fill" = true) (k19 : PySem.W.keepIn K (.ref f19) = true)
    (a20 : PySem.W.nsIn K mainGlobals "_law_fills" = some (some (.ref f20))) (l20 : K.lookup f20 = some ⟨oc20, od20, .func (PySem.W.fnOf "_law_fills" "_law_fills" (C8.fnArgs st_law_fills) (fnBody st_law_fills) (fnScope st_law_fills) .none kV20 dc20 pm20 an20 cd20 ct20), sl20⟩) (c20 : PySem.W.codeIn K cd20 "_law_fills" = true) (k20 : PySem.W.keepIn K (.ref f20) = true)
    (a21 : PySem.W.nsIn K mainGlobals "_law_end" = some (some (.ref f21))) (l21 : K.lookup f21 = some ⟨oc21, od21, .func (PySem.W.fnOf "_law_end" "_law_end" (C8.fnArgs st_law_end) (fnBody st_law_end) (fnScope st_law_end) .none kV21 dc21 pm21 an21 cd21 ct21), sl21⟩) (c21 : PySem.W.codeIn K cd21 "_law_end" = true) (k21 : PySem.W.keepIn K (.ref f21) = true)
    (a22 : PySem.W.nsIn K mainGlobals "_law_writer" = some (some (.ref f22))) (l22 : K.lookup f22 = some ⟨oc22, od22, .func (PySem.W.fnOf "_law_writer" "_law_writer" (C8.fnArgs st_law_writer) (fnBody st_law_writer) (fnScope st_law_writer) .none kV22 dc22 pm22 an22 cd22 ct22), sl22⟩) (c22 : PySem.W.codeIn K cd22 "_law_writer" = true) (k22 : PySem.W.keepIn K (.ref f22) = true)
    (a23 : PySem.W.nsIn K mainGlobals "_law_word" = some (some (.ref f23))) (l23 : K.lookup f23 = some ⟨oc23, od23, .func (PySem.W.fnOf "_law_word" "_law_word" (C8.fnArgs st_law_word) (fnBody st_law_word) (fnScope st_law_word) .none kV23 dc23 pm23 an23 cd23 ct23), sl23⟩) (c23 : PySem.W.codeIn K cd23 "_law_word" = true) (k23 : PySem.W.keepIn K (.ref f23) = true)
    (a24 : PySem.W.nsIn K mainGlobals "_law_made" = some (some (.ref f24))) (l24 : K.lookup f24 = some ⟨oc24, od24, .func (PySem.W.fnOf "_law_made" "_law_made" (C8.fnArgs st_law_made) (fnBody st_law_made) (fnScope st_law_made) .none kV24 dc24 pm24 an24 cd24 ct24), sl24⟩) (c24 : PySem.W.codeIn K cd24 "_law_made" = true) (k24 : PySem.W.keepIn K (.ref f24) = true)
    (a25 : PySem.W.nsIn K mainGlobals "_law_onward" = some (some (.ref f25))) (l25 : K.lookup f25 = some ⟨oc25, od25, .func (PySem.W.fnOf "_law_onward" "_law_onward" (C8.fnArgs st_law_onward) (fnBody st_law_onward) (fnScope st_law_onward) .none kV25 dc25 pm25 an25 cd25 ct25), sl25⟩) (c25 : PySem.W.codeIn K cd25 "_law_onward" = true) (k25 : PySem.W.keepIn K (.ref f25) = true)
    (a26 : PySem.W.nsIn K mainGlobals "_law_behind" = some (some (.ref f26))) (l26 : K.lookup f26 = some ⟨oc26, od26, .func (PySem.W.fnOf "_law_behind" "_law_behind" (C8.fnArgs st_law_behind) (fnBody st_law_behind) (fnScope st_law_behind) .none kV26 dc26 pm26 an26 cd26 ct26), sl26⟩) (c26 : PySem.W.codeIn K cd26 "_law_behind" = true) (k26 : PySem.W.keepIn K (.ref f26) = true)
    (a27 : PySem.W.nsIn K mainGlobals "_law_told" = some (some (.ref f27))) (l27 : K.lookup f27 = some ⟨oc27, od27, .func (PySem.W.fnOf "_law_told" "_law_told" (C8.fnArgs st_law_told) (fnBody st_law_told) (fnScope st_law_told) .none kV27 dc27 pm27 an27 cd27 ct27), sl27⟩) (c27 : PySem.W.codeIn K cd27 "_law_told" = true) (k27 : PySem.W.keepIn K (.ref f27) = true)
    (a28 : PySem.W.nsIn K mainGlobals "_law_filled" = some (some (.ref f28))) (l28 : K.lookup f28 = some ⟨oc28, od28, .func (PySem.W.fnOf "_law_filled" "_law_filled" (C8.fnArgs st_law_filled) (fnBody st_law_filled) (fnScope st_law_filled) .none kV28 dc28 pm28 an28 cd28 ct28), sl28⟩) (c28 : PySem.W.codeIn K cd28 "_law_filled" = true) (k28 : PySem.W.keepIn K (.ref f28) = true)
    (a29 : PySem.W.nsIn K mainGlobals "_law_entry" = some (some (.ref f29))) (l29 : K.lookup f29 = some ⟨oc29, od29, .func (PySem.W.fnOf "_law_entry" "_law_entry" (C8.fnArgs st_law_entry) (fnBody st_law_entry) (fnScope st_law_entry) .none kV29 dc29 pm29 an29 cd29 ct29), sl29⟩) (c29 : PySem.W.codeIn K cd29 "_law_entry" = true) (k29 : PySem.W.keepIn K (.ref f29) = true)
    (a30 : PySem.W.nsIn K mainGlobals "_law_marked" = some (some (.ref f30))) (l30 : K.lookup f30 = some ⟨oc30, od30, .func (PySem.W.fnOf "_law_marked" "_law_marked" (C8.fnArgs st_law_marked) (fnBody st_law_marked) (fnScope st_law_marked) .none kV30 dc30 pm30 an30 cd30 ct30), sl30⟩) (c30 : PySem.W.codeIn K cd30 "_law_marked" = true) (k30 : PySem.W.keepIn K (.ref f30) = true)
    (a31 : PySem.W.nsIn K mainGlobals "_law_unmarked" = some (some (.ref f31))) (l31 : K.lookup f31 = some ⟨oc31, od31, .func (PySem.W.fnOf "_law_unmarked" "_law_unmarked" (C8.fnArgs st_law_unmarked) (fnBody st_law_unmarked) (fnScope st_law_unmarked) .none kV31 dc31 pm31 an31 cd31 ct31), sl31⟩) (c31 : PySem.W.codeIn K cd31 "_law_unmarked" = true) (k31 : PySem.W.keepIn K (.ref f31) = true)
    (a32 : PySem.W.nsIn K mainGlobals "_law_limit" = some (some (.ref f32))) (l32 : K.lookup f32 = some ⟨oc32, od32, .func (PySem.W.fnOf "_law_limit" "_law_limit" (C8.fnArgs st_law_limit) (fnBody st_law_limit) (fnScope st_law_limit) .none kV32 dc32 pm32 an32 cd32 ct32), sl32⟩) (c32 : PySem.W.codeIn K cd32 "_law_limit" = true) (k32 : PySem.W.keepIn K (.ref f32) = true)
    (a33 : PySem.W.nsIn K mainGlobals "_law_long_right" = some (some (.ref f33))) (l33 : K.lookup f33 = some ⟨oc33, od33, .func (PySem.W.fnOf "_law_long_right" "_law_long_right" (C8.fnArgs st_law_long_right) (fnBody st_law_long_right) (fnScope st_law_long_right) .none kV33 dc33 pm33 an33 cd33 ct33), sl33⟩) (c33 : PySem.W.codeIn K cd33 "_law_long_right" = true) (k33 : PySem.W.keepIn K (.ref f33) = true)
    (a34 : PySem.W.nsIn K mainGlobals "law" = some (some (.ref f34))) (l34 : K.lookup f34 = some ⟨oc34, od34, .func (PySem.W.fnOf "law" "law" (C8.fnArgs st_law_) (fnBody st_law_) (fnScope st_law_) .none kV34 dc34 pm34 an34 cd34 ct34), sl34⟩) (c34 : PySem.W.codeIn K cd34 "law" = true) (k34 : PySem.W.keepIn K (.ref f34) = true)
    {t_MOST_STATES : Tok} (s_MOST_STATES : PySem.W.nsIn K mainGlobals "MOST_STATES" = some (some (.int 12 t_MOST_STATES)))
    {t_MOST_BUFFERS : Tok} (s_MOST_BUFFERS : PySem.W.nsIn K mainGlobals "MOST_BUFFERS" = some (some (.int 3 t_MOST_BUFFERS)))
    {t_MOST_LETTERS : Tok} (s_MOST_LETTERS : PySem.W.nsIn K mainGlobals "MOST_LETTERS" = some (some (.int 240 t_MOST_LETTERS)))
    (z_list : PySem.W.nsIn K mainGlobals "list" = some none)
    (z_int : PySem.W.nsIn K mainGlobals "int" = some none)
    (z_len : PySem.W.nsIn K mainGlobals "len" = some none)
    (z_range : PySem.W.nsIn K mainGlobals "range" = some none)
    (z_tuple : PySem.W.nsIn K mainGlobals "tuple" = some none)
    (z_isinstance : PySem.W.nsIn K mainGlobals "isinstance" = some none)
    (z_str : PySem.W.nsIn K mainGlobals "str" = some none)
    (z_sum : PySem.W.nsIn K mainGlobals "sum" = some none)
    (z_all : PySem.W.nsIn K mainGlobals "all" = some none)
    (z_max : PySem.W.nsIn K mainGlobals "max" = some none)
    (z_repr : PySem.W.nsIn K mainGlobals "repr" = some none)
    (z_min : PySem.W.nsIn K mainGlobals "min" = some none)
    (z_enumerate : PySem.W.nsIn K mainGlobals "enumerate" = some none)
    (z_OverflowError : PySem.W.nsIn K mainGlobals "OverflowError" = some none)
    {C_LimitExceeded i_LimitExceeded : Addr} {xq_LimitExceeded xa_LimitExceeded : Option Addr} {xr_LimitExceeded : Array (Option Value)} {xb_LimitExceeded xd_LimitExceeded xe_LimitExceeded xf_LimitExceeded xg_LimitExceeded xh_LimitExceeded : Value}
    {yn_LimitExceeded yq_LimitExceeded : Str} {ya_LimitExceeded : Addr} {yb_LimitExceeded ys_LimitExceeded : List Value} {yl_LimitExceeded : List Str} {yt_LimitExceeded : Bool} {yc_LimitExceeded : Option Bool} {yd_LimitExceeded : Option Addr} {y0_LimitExceeded y1_LimitExceeded y2_LimitExceeded y3_LimitExceeded y5_LimitExceeded : Option Value}
    (xw_LimitExceeded : PySem.W.nsIn K mainGlobals "LimitExceeded" = some (some (.ref C_LimitExceeded)))
    (xcl_LimitExceeded : K.lookup C_LimitExceeded = some (PySem.excClassObj yn_LimitExceeded yq_LimitExceeded C_LimitExceeded ya_LimitExceeded yb_LimitExceeded [.type "OverflowError", .type "ArithmeticError", .type "Exception", .type "BaseException", .type "object"] true yl_LimitExceeded ys_LimitExceeded yt_LimitExceeded yc_LimitExceeded yd_LimitExceeded y0_LimitExceeded y1_LimitExceeded y2_LimitExceeded y3_LimitExceeded y5_LimitExceeded "OverflowError.__new__"))
    (xsa_LimitExceeded : PySem.W.findIn K (.ref C_LimitExceeded) "__setattr__" = some (some (.builtin "object.__setattr__")))
    (xhd_LimitExceeded : PySem.W.hasDictIn K C_LimitExceeded = true)
    (xex_LimitExceeded : PySem.W.subIn K (.ref C_LimitExceeded) (.type "BaseException") = some true)
    (xty_LimitExceeded : PySem.W.typeIn K (.ref C_LimitExceeded) = some (.type "type"))
    (xkp_LimitExceeded : PySem.W.keepIn K (.ref C_LimitExceeded) = true)
    (xt0_LimitExceeded : PySem.W.takerIn K C_LimitExceeded "limit" = some none)
    (xn0_LimitExceeded : PySem.W.findIn K (.ref C_LimitExceeded) "limit" = some none)
    (xic_LimitExceeded : PySem.W.findIn K (.ref C_LimitExceeded) "__init__" = some (some (.ref i_LimitExceeded)))
    (xti_LimitExceeded : PySem.W.typeIn K (.ref i_LimitExceeded) = some (.type "function"))
    (xl_LimitExceeded : K.lookup i_LimitExceeded = some ⟨xb_LimitExceeded, xq_LimitExceeded, .func (PySem.W.fnOf "__init__" "LimitExceeded.__init__" (C8.fnArgs stC_LimitExceeded___init__) (fnBody stC_LimitExceeded___init__) (fnScope stC_LimitExceeded___init__) .none xd_LimitExceeded xe_LimitExceeded xf_LimitExceeded xa_LimitExceeded xg_LimitExceeded xh_LimitExceeded), xr_LimitExceeded⟩)
    (xc_LimitExceeded : PySem.W.codeIn K xg_LimitExceeded "LimitExceeded.__init__" = true)
    (xvv_LimitExceeded : PySem.W.findCls K (.type "OverflowError") (.type "type") "__init__" = some (.val (.builtin "OverflowError.__init__")))
    (xga_LimitExceeded : PySem.W.findIn K (.ref C_LimitExceeded) "__getattribute__" = some (some (.builtin "BaseException.__getattribute__")))
    (xgg_LimitExceeded : PySem.W.findIn K (.ref C_LimitExceeded) "__getattr__" = some none)
    (xis_LimitExceeded : PySem.W.isClsIn K C_LimitExceeded = true)
    (xss_LimitExceeded : PySem.W.subIn K (.ref C_LimitExceeded) (.ref C_LimitExceeded) = some true) :
    ∃ fd : FuncData, (∀ (s : Shared) (u : Value), BindsTo s fd ⟨[u], []⟩ [("script", u)]) ∧ ∀ base : Heap, K.In base → base.Ns mainGlobals mg → FnG l.prog w K mg base 8 fa fd ["script"] (spLaw K) := by
  have e := named.symm.trans (PySem.W.mg_of X G a34)
  cases e
  have F0 : C8.Fun K "most_letters" "most_letters" st_most_letters_ f0 _ := ⟨⟨_, _, _, _, _, _, _, _, _, _, rfl, l0, c0⟩⟩
  have Dmost_letters : C8.Def K mg "most_letters" st_most_letters_ f0 _ := ⟨F0, PySem.W.mg_of X G a0, k0⟩
  have bmost_letters := F0.binds rfl (ps := ["writer"]) fun _ _ _ _ _ _ us hl => match us, hl with | [_], _ => rfl
  have F1 : C8.Fun K "joined" "joined" st_joined_ f1 _ := ⟨⟨_, _, _, _, _, _, _, _, _, _, rfl, l1, c1⟩⟩
  have F2 : C8.Fun K "letters_in" "letters_in" st_letters_in_ f2 _ := ⟨⟨_, _, _, _, _, _, _, _, _, _, rfl, l2, c2⟩⟩
  have Dletters_in : C8.Def K mg "letters_in" st_letters_in_ f2 _ := ⟨F2, PySem.W.mg_of X G a2, k2⟩
  have bletters_in := F2.binds rfl (ps := ["recipes"]) fun _ _ _ _ _ _ us hl => match us, hl with | [_], _ => rfl
  have F3 : C8.Fun K "entry_along" "entry_along" st_entry_along_ f3 _ := ⟨⟨_, _, _, _, _, _, _, _, _, _, rfl, l3, c3⟩⟩
  have Dentry_along : C8.Def K mg "entry_along" st_entry_along_ f3 _ := ⟨F3, PySem.W.mg_of X G a3, k3⟩
  have bentry_along := F3.binds rfl (ps := ["writer", "start", "word"]) fun _ _ _ _ _ _ us hl => match us, hl with | [_, _, _], _ => rfl
  have F4 : C8.Fun K "own_fills" "own_fills" st_own_fills_ f4 _ := ⟨⟨_, _, _, _, _, _, _, _, _, _, rfl, l4, c4⟩⟩
  have Down_fills : C8.Def K mg "own_fills" st_own_fills_ f4 _ := ⟨F4, PySem.W.mg_of X G a4, k4⟩
  have bown_fills := F4.binds rfl (ps := ["buffers"]) fun _ _ _ _ _ _ us hl => match us, hl with | [_], _ => rfl
  have F5 : C8.Fun K "put_in" "put_in" st_put_in_ f5 _ := ⟨⟨_, _, _, _, _, _, _, _, _, _, rfl, l5, c5⟩⟩
  have Dput_in : C8.Def K mg "put_in" st_put_in_ f5 _ := ⟨F5, PySem.W.mg_of X G a5, k5⟩
  have bput_in := F5.binds rfl (ps := ["recipe", "fills"]) fun _ _ _ _ _ _ us hl => match us, hl with | [_, _], _ => rfl
  have F6 : C8.Fun K "require_bounds" "require_bounds" st_require_bounds_ f6 _ := ⟨⟨_, _, _, _, _, _, _, _, _, _, rfl, l6, c6⟩⟩
  have Drequire_bounds : C8.Def K mg "require_bounds" st_require_bounds_ f6 _ := ⟨F6, PySem.W.mg_of X G a6, k6⟩
  have brequire_bounds := F6.binds rfl (ps := ["writer"]) fun _ _ _ _ _ _ us hl => match us, hl with | [_], _ => rfl
  have F7 : C8.Fun K "text_for" "text_for" st_text_for_ f7 _ := ⟨⟨_, _, _, _, _, _, _, _, _, _, rfl, l7, c7⟩⟩
  have Dtext_for : C8.Def K mg "text_for" st_text_for_ f7 _ := ⟨F7, PySem.W.mg_of X G a7, k7⟩
  have btext_for := F7.binds rfl (ps := ["writer", "word"]) fun _ _ _ _ _ _ us hl => match us, hl with | [_, _], _ => rfl
  have F8 : C8.Fun K "behind_from" "behind_from" st_behind_from_ f8 _ := ⟨⟨_, _, _, _, _, _, _, _, _, _, rfl, l8, c8⟩⟩
  have Dbehind_from : C8.Def K mg "behind_from" st_behind_from_ f8 _ := ⟨F8, PySem.W.mg_of X G a8, k8⟩
  have bbehind_from := F8.binds rfl (ps := ["writer", "situation", "word"]) fun _ _ _ _ _ _ us hl => match us, hl with | [_, _, _], _ => rfl
  have F9 : C8.Fun K "text_from" "text_from" st_text_from_ f9 _ := ⟨⟨_, _, _, _, _, _, _, _, _, _, rfl, l9, c9⟩⟩
  have Dtext_from : C8.Def K mg "text_from" st_text_from_ f9 _ := ⟨F9, PySem.W.mg_of X G a9, k9⟩
  have btext_from := F9.binds rfl (ps := ["writer", "situation", "word"]) fun _ _ _ _ _ _ us hl => match us, hl with | [_, _, _], _ => rfl
  have F10 : C8.Fun K "_filled" "_filled" st_filled f10 _ := ⟨⟨_, _, _, _, _, _, _, _, _, _, rfl, l10, c10⟩⟩
  have D_filled : C8.Def K mg "_filled" st_filled f10 _ := ⟨F10, PySem.W.mg_of X G a10, k10⟩
  have b_filled := F10.binds rfl (ps := ["fills", "texts"]) fun _ _ _ _ _ _ us hl => match us, hl with | [_, _], _ => rfl
  have F11 : C8.Fun K "_made" "_made" st_made f11 _ := ⟨⟨_, _, _, _, _, _, _, _, _, _, rfl, l11, c11⟩⟩
  have D_made : C8.Def K mg "_made" st_made f11 _ := ⟨F11, PySem.W.mg_of X G a11, k11⟩
  have b_made := F11.binds rfl (ps := ["recipe", "texts"]) fun _ _ _ _ _ _ us hl => match us, hl with | [_, _], _ => rfl
  have F12 : C8.Fun K "marked" "marked" st_marked_ f12 _ := ⟨⟨_, _, _, _, _, _, _, _, _, _, rfl, l12, c12⟩⟩
  have Dmarked : C8.Def K mg "marked" st_marked_ f12 _ := ⟨F12, PySem.W.mg_of X G a12, k12⟩
  have bmarked := F12.binds rfl (ps := ["writer", "word"]) fun _ _ _ _ _ _ us hl => match us, hl with | [_, _], _ => rfl
  have F13 : C8.Fun K "_law_pen" "_law_pen" st_law_pen f13 _ := ⟨⟨_, _, _, _, _, _, _, _, _, _, rfl, l13, c13⟩⟩
  have D_law_pen : C8.Def K mg "_law_pen" st_law_pen f13 _ := ⟨F13, PySem.W.mg_of X G a13, k13⟩
  have b_law_pen := F13.binds rfl (ps := ["script"]) fun _ _ _ _ _ _ us hl => match us, hl with | [_], _ => rfl
  have F14 : C8.Fun K "_law_fresh" "_law_fresh" st_law_fresh f14 _ := ⟨⟨_, _, _, _, _, _, _, _, _, _, rfl, l14, c14⟩⟩
  have D_law_fresh : C8.Def K mg "_law_fresh" st_law_fresh f14 _ := ⟨F14, PySem.W.mg_of X G a14, k14⟩
  have b_law_fresh := F14.binds rfl (ps := ["pen"]) fun _ _ _ _ _ _ us hl => match us, hl with | [_], _ => rfl
  have F15 : C8.Fun K "_law_draw" "_law_draw" st_law_draw f15 _ := ⟨⟨_, _, _, _, _, _, _, _, _, _, rfl, l15, c15⟩⟩
  have D_law_draw : C8.Def K mg "_law_draw" st_law_draw f15 _ := ⟨F15, PySem.W.mg_of X G a15, k15⟩
  have b_law_draw := F15.binds rfl (ps := ["pen", "bound"]) fun _ _ _ _ _ _ us hl => match us, hl with | [_, _], _ => rfl
  have F16 : C8.Fun K "_law_one_of" "_law_one_of" st_law_one_of f16 _ := ⟨⟨_, _, _, _, _, _, _, _, _, _, rfl, l16, c16⟩⟩
  have D_law_one_of : C8.Def K mg "_law_one_of" st_law_one_of f16 _ := ⟨F16, PySem.W.mg_of X G a16, k16⟩
  have b_law_one_of := F16.binds rfl (ps := ["pen", "rows"]) fun _ _ _ _ _ _ us hl => match us, hl with | [_, _], _ => rfl
  have F17 : C8.Fun K "_law_piece" "_law_piece" st_law_piece f17 _ := ⟨⟨_, _, _, _, _, _, _, _, _, _, rfl, l17, c17⟩⟩
  have D_law_piece : C8.Def K mg "_law_piece" st_law_piece f17 _ := ⟨F17, PySem.W.mg_of X G a17, k17⟩
  have b_law_piece := F17.binds rfl (ps := ["pen", "most"]) fun _ _ _ _ _ _ us hl => match us, hl with | [_, _], _ => rfl
  have F18 : C8.Fun K "_law_normal" "_law_normal" st_law_normal f18 _ := ⟨⟨_, _, _, _, _, _, _, _, _, _, rfl, l18, c18⟩⟩
  have D_law_normal : C8.Def K mg "_law_normal" st_law_normal f18 _ := ⟨F18, PySem.W.mg_of X G a18, k18⟩
  have b_law_normal := F18.binds rfl (ps := ["parts"]) fun _ _ _ _ _ _ us hl => match us, hl with | [_], _ => rfl
  have F19 : C8.Fun K "_law_fill" "_law_fill" st_law_fill f19 _ := ⟨⟨_, _, _, _, _, _, _, _, _, _, rfl, l19, c19⟩⟩
  have D_law_fill : C8.Def K mg "_law_fill" st_law_fill f19 _ := ⟨F19, PySem.W.mg_of X G a19, k19⟩
  have b_law_fill := F19.binds rfl (ps := ["pen", "left", "own"]) fun _ _ _ _ _ _ us hl => match us, hl with | [_, _, _], _ => rfl
  have F20 : C8.Fun K "_law_fills" "_law_fills" st_law_fills f20 _ := ⟨⟨_, _, _, _, _, _, _, _, _, _, rfl, l20, c20⟩⟩
  have D_law_fills : C8.Def K mg "_law_fills" st_law_fills f20 _ := ⟨F20, PySem.W.mg_of X G a20, k20⟩
  have b_law_fills := F20.binds rfl (ps := ["pen", "buffers"]) fun _ _ _ _ _ _ us hl => match us, hl with | [_, _], _ => rfl
  have F21 : C8.Fun K "_law_end" "_law_end" st_law_end f21 _ := ⟨⟨_, _, _, _, _, _, _, _, _, _, rfl, l21, c21⟩⟩
  have D_law_end : C8.Def K mg "_law_end" st_law_end f21 _ := ⟨F21, PySem.W.mg_of X G a21, k21⟩
  have b_law_end := F21.binds rfl (ps := ["pen", "buffers"]) fun _ _ _ _ _ _ us hl => match us, hl with | [_, _], _ => rfl
  have F22 : C8.Fun K "_law_writer" "_law_writer" st_law_writer f22 _ := ⟨⟨_, _, _, _, _, _, _, _, _, _, rfl, l22, c22⟩⟩
  have D_law_writer : C8.Def K mg "_law_writer" st_law_writer f22 _ := ⟨F22, PySem.W.mg_of X G a22, k22⟩
  have b_law_writer := F22.binds rfl (ps := ["pen", "count", "states", "buffers"]) fun _ _ _ _ _ _ us hl => match us, hl with | [_, _, _, _], _ => rfl
  have F23 : C8.Fun K "_law_word" "_law_word" st_law_word f23 _ := ⟨⟨_, _, _, _, _, _, _, _, _, _, rfl, l23, c23⟩⟩
  have D_law_word : C8.Def K mg "_law_word" st_law_word f23 _ := ⟨F23, PySem.W.mg_of X G a23, k23⟩
  have b_law_word := F23.binds rfl (ps := ["pen", "count", "most"]) fun _ _ _ _ _ _ us hl => match us, hl with | [_, _, _], _ => rfl
  have F24 : C8.Fun K "_law_made" "_law_made" st_law_made f24 _ := ⟨⟨_, _, _, _, _, _, _, _, _, _, rfl, l24, c24⟩⟩
  have D_law_made : C8.Def K mg "_law_made" st_law_made f24 _ := ⟨F24, PySem.W.mg_of X G a24, k24⟩
  have b_law_made := F24.binds rfl (ps := ["recipe", "texts"]) fun _ _ _ _ _ _ us hl => match us, hl with | [_, _], _ => rfl
  have F25 : C8.Fun K "_law_onward" "_law_onward" st_law_onward f25 _ := ⟨⟨_, _, _, _, _, _, _, _, _, _, rfl, l25, c25⟩⟩
  have D_law_onward : C8.Def K mg "_law_onward" st_law_onward f25 _ := ⟨F25, PySem.W.mg_of X G a25, k25⟩
  have b_law_onward := F25.binds rfl (ps := ["writer", "situation", "kind"]) fun _ _ _ _ _ _ us hl => match us, hl with | [_, _, _], _ => rfl
  have F26 : C8.Fun K "_law_behind" "_law_behind" st_law_behind f26 _ := ⟨⟨_, _, _, _, _, _, _, _, _, _, rfl, l26, c26⟩⟩
  have D_law_behind : C8.Def K mg "_law_behind" st_law_behind f26 _ := ⟨F26, PySem.W.mg_of X G a26, k26⟩
  have b_law_behind := F26.binds rfl (ps := ["writer", "word"]) fun _ _ _ _ _ _ us hl => match us, hl with | [_, _], _ => rfl
  have F27 : C8.Fun K "_law_told" "_law_told" st_law_told f27 _ := ⟨⟨_, _, _, _, _, _, _, _, _, _, rfl, l27, c27⟩⟩
  have D_law_told : C8.Def K mg "_law_told" st_law_told f27 _ := ⟨F27, PySem.W.mg_of X G a27, k27⟩
  have b_law_told := F27.binds rfl (ps := ["writer", "word"]) fun _ _ _ _ _ _ us hl => match us, hl with | [_, _], _ => rfl
  have F28 : C8.Fun K "_law_filled" "_law_filled" st_law_filled f28 _ := ⟨⟨_, _, _, _, _, _, _, _, _, _, rfl, l28, c28⟩⟩
  have D_law_filled : C8.Def K mg "_law_filled" st_law_filled f28 _ := ⟨F28, PySem.W.mg_of X G a28, k28⟩
  have b_law_filled := F28.binds rfl (ps := ["recipe", "fills"]) fun _ _ _ _ _ _ us hl => match us, hl with | [_, _], _ => rfl
  have F29 : C8.Fun K "_law_entry" "_law_entry" st_law_entry f29 _ := ⟨⟨_, _, _, _, _, _, _, _, _, _, rfl, l29, c29⟩⟩
  have D_law_entry : C8.Def K mg "_law_entry" st_law_entry f29 _ := ⟨F29, PySem.W.mg_of X G a29, k29⟩
  have b_law_entry := F29.binds rfl (ps := ["writer", "state", "word"]) fun _ _ _ _ _ _ us hl => match us, hl with | [_, _, _], _ => rfl
  have F30 : C8.Fun K "_law_marked" "_law_marked" st_law_marked f30 _ := ⟨⟨_, _, _, _, _, _, _, _, _, _, rfl, l30, c30⟩⟩
  have D_law_marked : C8.Def K mg "_law_marked" st_law_marked f30 _ := ⟨F30, PySem.W.mg_of X G a30, k30⟩
  have b_law_marked := F30.binds rfl (ps := ["writer", "word"]) fun _ _ _ _ _ _ us hl => match us, hl with | [_, _], _ => rfl
  have F31 : C8.Fun K "_law_unmarked" "_law_unmarked" st_law_unmarked f31 _ := ⟨⟨_, _, _, _, _, _, _, _, _, _, rfl, l31, c31⟩⟩
  have D_law_unmarked : C8.Def K mg "_law_unmarked" st_law_unmarked f31 _ := ⟨F31, PySem.W.mg_of X G a31, k31⟩
  have b_law_unmarked := F31.binds rfl (ps := ["word", "mark", "other"]) fun _ _ _ _ _ _ us hl => match us, hl with | [_, _, _], _ => rfl
  have F32 : C8.Fun K "_law_limit" "_law_limit" st_law_limit f32 _ := ⟨⟨_, _, _, _, _, _, _, _, _, _, rfl, l32, c32⟩⟩
  have D_law_limit : C8.Def K mg "_law_limit" st_law_limit f32 _ := ⟨F32, PySem.W.mg_of X G a32, k32⟩
  have b_law_limit := F32.binds rfl (ps := ["writer", "word"]) fun _ _ _ _ _ _ us hl => match us, hl with | [_, _], _ => rfl
  have F33 : C8.Fun K "_law_long_right" "_law_long_right" st_law_long_right f33 _ := ⟨⟨_, _, _, _, _, _, _, _, _, _, rfl, l33, c33⟩⟩
  have D_law_long_right : C8.Def K mg "_law_long_right" st_law_long_right f33 _ := ⟨F33, PySem.W.mg_of X G a33, k33⟩
  have b_law_long_right := F33.binds rfl (ps := ["pen"]) fun _ _ _ _ _ _ us hl => match us, hl with | [_], _ => rfl
  have F34 : C8.Fun K "law" "law" st_law_ _ _ := ⟨⟨_, _, _, _, _, _, _, _, _, _, rfl, l34, c34⟩⟩
  have m_list := PySem.W.mg_none_of X G z_list
  have m_int := PySem.W.mg_none_of X G z_int
  have m_len := PySem.W.mg_none_of X G z_len
  have m_range := PySem.W.mg_none_of X G z_range
  have m_tuple := PySem.W.mg_none_of X G z_tuple
  have m_isinstance := PySem.W.mg_none_of X G z_isinstance
  have m_str := PySem.W.mg_none_of X G z_str
  have m_sum := PySem.W.mg_none_of X G z_sum
  have m_all := PySem.W.mg_none_of X G z_all
  have m_max := PySem.W.mg_none_of X G z_max
  have m_repr := PySem.W.mg_none_of X G z_repr
  have m_min := PySem.W.mg_none_of X G z_min
  have m_enumerate := PySem.W.mg_none_of X G z_enumerate
  have m_OverflowError := PySem.W.mg_none_of X G z_OverflowError
  have B : BN3 mg := { list := m_list, int := m_int, len := m_len, range := m_range, tuple := m_tuple, isi := m_isinstance, str := m_str, sum := m_sum, all := m_all, max := m_max }
  have N : CM mg := { st := ⟨_, PySem.W.mg_of X G s_MOST_STATES⟩, bu := ⟨_, PySem.W.mg_of X G s_MOST_BUFFERS⟩, le := ⟨_, PySem.W.mg_of X G s_MOST_LETTERS⟩ }
  have b_err := C8.Fun.binds (⟨⟨_, _, _, _, _, _, _, _, _, _, rfl, xl_LimitExceeded, xc_LimitExceeded⟩⟩ : C8.Fun K "__init__" "LimitExceeded.__init__" stC_LimitExceeded___init__ i_LimitExceeded _) rfl (ps := ["self", "limit"]) fun _ _ _ _ _ _ us hl => match us, hl with | [_, _], _ => rfl
  have L : LimT K mg C_LimitExceeded := { T := { io := excInit_at xcl_LimitExceeded (by decide), ov := excOver_at xcl_LimitExceeded (by decide), sa := xsa_LimitExceeded, hd := xhd_LimitExceeded, ex := xex_LimitExceeded, ty := xty_LimitExceeded, kp := xkp_LimitExceeded }, tk := xt0_LimitExceeded, gC := PySem.W.mg_of X G xw_LimitExceeded, ini := ⟨_, _, xic_LimitExceeded, xti_LimitExceeded, ⟨⟨_, _, _, _, _, _, _, _, _, _, rfl, xl_LimitExceeded, xc_LimitExceeded⟩⟩, b_err⟩, vV := xvv_LimitExceeded, mo := m_OverflowError, xf := { ga := xga_LimitExceeded, gg := xgg_LimitExceeded, exC := xex_LimitExceeded, hdC := xhd_LimitExceeded }, no := xn0_LimitExceeded, ee := exm_at xex_LimitExceeded xis_LimitExceeded xty_LimitExceeded xss_LimitExceeded }
  refine ⟨PySem.W.fnOf "law" "law" (C8.fnArgs st_law_) (fnBody st_law_) (fnScope st_law_) .none kV34 dc34 pm34 an34 cd34 ct34, fun s u => .of_eq rfl, fun base _ _ => ?_⟩
  have cpen : Cal l.prog w K mg base 1 "_law_pen" (spPen K) [] := cal_pen D_law_pen b_law_pen B.toBN2.toBN
  have cfresh : Cal l.prog w K mg base 1 "_law_fresh" spFresh [] := cal_fresh D_law_fresh b_law_fresh B.toBN2.toBN
  have cdraw : Cal l.prog w K mg base 2 "_law_draw" spDraw [] := cal_draw D_law_draw b_law_draw B.toBN2.toBN cfresh
  have cone : Cal l.prog w K mg base 3 "_law_one_of" (spOne K) [] := cal_one D_law_one_of b_law_one_of B.toBN2.toBN cdraw
  have cpiece : Cal l.prog w K mg base 4 "_law_piece" spPiece [] := cal_piece D_law_piece b_law_piece B.toBN2.toBN cdraw cone
  have cnormal : Cal l.prog w K mg base 1 "_law_normal" (spNormal K) [] := cal_normal D_law_normal b_law_normal B.toBN2
  have cfill : Cal l.prog w K mg base 5 "_law_fill" spFill [] := cal_fill D_law_fill b_law_fill B.toBN2 cdraw cone cpiece cnormal
  have cfillF : Cal l.prog w K mg base 5 "_law_fill" spFillF [] := cal_fillF D_law_fill b_law_fill B.toBN2 cdraw cone cpiece cnormal
  have cfillsF : Cal l.prog w K mg base 6 "_law_fills" spFillsF [] := cal_fillsF D_law_fills b_law_fills B.toBN2 cdraw cfillF
  have cend : Cal l.prog w K mg base 6 "_law_end" spEnd [] := cal_end D_law_end b_law_end B.toBN2 cdraw cfill
  have cwriter : Cal l.prog w K mg base 7 "_law_writer" spWriterF [] := cal_writerF D_law_writer b_law_writer B.toBN2 cdraw cpiece cfillsF cend
  have cword : Cal l.prog w K mg base 3 "_law_word" spWord [] := cal_word D_law_word b_law_word B.toBN2.toBN m_tuple cdraw
  have cmade : Cal l.prog w K mg base 1 "_made" spMade [] := cal_made D_made b_made B.toBN2
  have clmade : Cal l.prog w K mg base 1 "_law_made" spMade [] := cal_law_made D_law_made b_law_made B.toBN2
  have cfilled : Cal l.prog w K mg base 2 "_filled" spFilled [] := cal_filled D_filled b_filled B.toBN2 cmade
  have cbf : Cal l.prog w K mg base 3 "behind_from" spBehindF [] := cal_behind_from_ Dbehind_from bbehind_from cfilled
  have ctf : Cal l.prog w K mg base 4 "text_from" spTellF [] := cal_text_from_ Dtext_from btext_from cbf cmade
  have ctext : Cal l.prog w K mg base 5 "text_for" spTell [] := cal_text_for_ Dtext_for btext_for ctf
  have conward : Cal l.prog w K mg base 2 "_law_onward" spOnward [] := cal_onward D_law_onward b_law_onward B.toBN2 clmade
  have clbehind : Cal l.prog w K mg base 3 "_law_behind" spBehind [] := cal_lbehind D_law_behind b_law_behind conward
  have ctold : Cal l.prog w K mg base 4 "_law_told" spTell [] := cal_told D_law_told b_law_told clbehind clmade
  have cjoined : CalR l.prog w K mg base 1 "joined" spJoined := cal_joined_ l1 c1 k1 (PySem.W.mg_of X G a1) B.toBN2
  have clin : Cal l.prog w K mg base 1 "letters_in" spLetters [] := cal_lin Dletters_in bletters_in B
  have cplaces : Cal l.prog w K mg base 2 "most_letters" spMost [] := cal_most Dmost_letters bmost_letters B clin
  have cown : Cal l.prog w K mg base 1 "own_fills" spOwn [] := cal_own Down_fills bown_fills B.toBN2
  have cput : Cal l.prog w K mg base 2 "put_in" spPut [] := cal_put Dput_in bput_in B.toBN2 cjoined
  have cent : Cal l.prog w K mg base 3 "entry_along" spEnt [] := cal_ent Dentry_along bentry_along B.toBN2 cown cput
  have cbounds : CalX l.prog w K mg base 4 "require_bounds" (spBounds C_LimitExceeded) := cal_bounds L Drequire_bounds brequire_bounds B N cplaces
  have cmarked : CalX l.prog w K mg base 5 "marked" (spMarked C_LimitExceeded) := cal_marked Dmarked bmarked B m_enumerate cent cbounds
  have clfilled : Cal l.prog w K mg base 2 "_law_filled" spPut [] := cal_lfilled D_law_filled b_law_filled B.toBN2 cnormal
  have clent : Cal l.prog w K mg base 3 "_law_entry" spEnt [] := cal_lent D_law_entry b_law_entry B.toBN2 clfilled
  have clmark : Cal l.prog w K mg base 4 "_law_marked" spLMark [] := cal_lmark D_law_marked b_law_marked B.toBN2 m_enumerate clent
  have cunm : Cal l.prog w K mg base 1 "_law_unmarked" spUnm [] := cal_unm D_law_unmarked b_law_unmarked
  have climit : Cal l.prog w K mg base 6 "_law_limit" spLimit [] := cal_limit L D_law_limit b_law_limit cmarked
  have clong : CalG l.prog w K mg base 7 "_law_long_right" spLong54 := ⟨_, _, _, fn_long54 F33 m_repr cdraw climit, PySem.W.mg_of X G a33, k33, b_law_long_right⟩
  exact fn_law F34 B.toBN2 m_repr m_max m_min cpen cdraw cwriter cword cmarked clmark ctext ctold cunm clong
end Toy

open PySem PySem.W PyProof.Rows in
set_option maxRecDepth 100000 in
set_option maxHeartbeats 0 in
theorem PySem.Challenge.cw_fewtests_k54_marked_writers_holds : PySem.Challenge.rw_fewtests_k54_marked_writers.Holds := by
  w_on; o_law; k_head; (case hw => w_witness2)
  k_fill
  refine Toy.walkG (l := PySem.Challenge.rw_fewtests_k54_marked_writers) (k := 8) (sp := Toy.spLaw) (x := "script") rfl rfl ⟨rfl, by decide, by decide⟩ (fun w h Y => PySem.W.kIn_of Y) ?F (fun K H a ns few sq => ⟨a, ns, rfl, sq, fun _ => rfl⟩)
  case F =>
    intro w mg fa h KX G hmg
    refine' Toy.all_mk KX G hmg ?a0 ?l0 ?c0 ?k0 ?a1 ?l1 ?c1 ?k1 ?a2 ?l2 ?c2 ?k2 ?a3 ?l3 ?c3 ?k3 ?a4 ?l4 ?c4 ?k4 ?a5 ?l5 ?c5 ?k5 ?a6 ?l6 ?c6 ?k6 ?a7 ?l7 ?c7 ?k7 ?a8 ?l8 ?c8 ?k8 ?a9 ?l9 ?c9 ?k9 ?a10 ?l10 ?c10 ?k10 ?a11 ?l11 ?c11 ?k11 ?a12 ?l12 ?c12 ?k12 ?a13 ?l13 ?c13 ?k13 ?a14 ?l14 ?c14 ?k14 ?a15 ?l15 ?c15 ?k15 ?a16 ?l16 ?c16 ?k16 ?a17 ?l17 ?c17 ?k17 ?a18 ?l18 ?c18 ?k18 ?a19 ?l19 ?c19 ?k19 ?a20 ?l20 ?c20 ?k20 ?a21 ?l21 ?c21 ?k21 ?a22 ?l22 ?c22 ?k22 ?a23 ?l23 ?c23 ?k23 ?a24 ?l24 ?c24 ?k24 ?a25 ?l25 ?c25 ?k25 ?a26 ?l26 ?c26 ?k26 ?a27 ?l27 ?c27 ?k27 ?a28 ?l28 ?c28 ?k28 ?a29 ?l29 ?c29 ?k29 ?a30 ?l30 ?c30 ?k30 ?a31 ?l31 ?c31 ?k31 ?a32 ?l32 ?c32 ?k32 ?a33 ?l33 ?c33 ?k33 ?a34 ?l34 ?c34 ?k34 ?s_MOST_STATES ?s_MOST_BUFFERS ?s_MOST_LETTERS ?z_list ?z_int ?z_len ?z_range ?z_tuple ?z_isinstance ?z_str ?z_sum ?z_all ?z_max ?z_repr ?z_min ?z_enumerate ?z_OverflowError ?xw_LimitExceeded ?xcl_LimitExceeded ?xsa_LimitExceeded ?xhd_LimitExceeded ?xex_LimitExceeded ?xty_LimitExceeded ?xkp_LimitExceeded ?xt0_LimitExceeded ?xn0_LimitExceeded ?xic_LimitExceeded ?xti_LimitExceeded ?xl_LimitExceeded ?xc_LimitExceeded ?xvv_LimitExceeded ?xga_LimitExceeded ?xgg_LimitExceeded ?xis_LimitExceeded ?xss_LimitExceeded
    (case a0 => k_is)
    (case l0 => k_is)
    (case c0 => k_is)
    (case k0 => k_is)
    (case a1 => k_is)
    (case l1 => k_is)
    (case c1 => k_is)
    (case k1 => k_is)
    (case a2 => k_is)
    (case l2 => k_is)
    (case c2 => k_is)
    (case k2 => k_is)
    (case a3 => k_is)
    (case l3 => k_is)
    (case c3 => k_is)
    (case k3 => k_is)
    (case a4 => k_is)
    (case l4 => k_is)
    (case c4 => k_is)
    (case k4 => k_is)
    (case a5 => k_is)
    (case l5 => k_is)
    (case c5 => k_is)
    (case k5 => k_is)
    (case a6 => k_is)
    (case l6 => k_is)
    (case c6 => k_is)
    (case k6 => k_is)
    (case a7 => k_is)
    (case l7 => k_is)
    (case c7 => k_is)
    (case k7 => k_is)
    (case a8 => k_is)
    (case l8 => k_is)
    (case c8 => k_is)
    (case k8 => k_is)
    (case a9 => k_is)
    (case l9 => k_is)
    (case c9 => k_is)
    (case k9 => k_is)
    (case a10 => k_is)
    (case l10 => k_is)
    (case c10 => k_is)
    (case k10 => k_is)
    (case a11 => k_is)
    (case l11 => k_is)
    (case c11 => k_is)
    (case k11 => k_is)
    (case a12 => k_is)
    (case l12 => k_is)
    (case c12 => k_is)
    (case k12 => k_is)
    (case a13 => k_is)
    (case l13 => k_is)
    (case c13 => k_is)
    (case k13 => k_is)
    (case a14 => k_is)
    (case l14 => k_is)
    (case c14 => k_is)
    (case k14 => k_is)
    (case a15 => k_is)
    (case l15 => k_is)
    (case c15 => k_is)
    (case k15 => k_is)
    (case a16 => k_is)
    (case l16 => k_is)
    (case c16 => k_is)
    (case k16 => k_is)
    (case a17 => k_is)
    (case l17 => k_is)
    (case c17 => k_is)
    (case k17 => k_is)
    (case a18 => k_is)
    (case l18 => k_is)
    (case c18 => k_is)
    (case k18 => k_is)
    (case a19 => k_is)
    (case l19 => k_is)
    (case c19 => k_is)
    (case k19 => k_is)
    (case a20 => k_is)
    (case l20 => k_is)
    (case c20 => k_is)
    (case k20 => k_is)
    (case a21 => k_is)
    (case l21 => k_is)
    (case c21 => k_is)
    (case k21 => k_is)
    (case a22 => k_is)
    (case l22 => k_is)
    (case c22 => k_is)
    (case k22 => k_is)
    (case a23 => k_is)
    (case l23 => k_is)
    (case c23 => k_is)
    (case k23 => k_is)
    (case a24 => k_is)
    (case l24 => k_is)
    (case c24 => k_is)
    (case k24 => k_is)
    (case a25 => k_is)
    (case l25 => k_is)
    (case c25 => k_is)
    (case k25 => k_is)
    (case a26 => k_is)
    (case l26 => k_is)
    (case c26 => k_is)
    (case k26 => k_is)
    (case a27 => k_is)
    (case l27 => k_is)
    (case c27 => k_is)
    (case k27 => k_is)
    (case a28 => k_is)
    (case l28 => k_is)
    (case c28 => k_is)
    (case k28 => k_is)
    (case a29 => k_is)
    (case l29 => k_is)
    (case c29 => k_is)
    (case k29 => k_is)
    (case a30 => k_is)
    (case l30 => k_is)
    (case c30 => k_is)
    (case k30 => k_is)
    (case a31 => k_is)
    (case l31 => k_is)
    (case c31 => k_is)
    (case k31 => k_is)
    (case a32 => k_is)
    (case l32 => k_is)
    (case c32 => k_is)
    (case k32 => k_is)
    (case a33 => k_is)
    (case l33 => k_is)
    (case c33 => k_is)
    (case k33 => k_is)
    (case a34 => k_is)
    (case l34 => k_is)
    (case c34 => k_is)
    (case k34 => k_is)
    (case s_MOST_STATES => k_is)
    (case s_MOST_BUFFERS => k_is)
    (case s_MOST_LETTERS => k_is)
    (case z_list => k_is)
    (case z_int => k_is)
    (case z_len => k_is)
    (case z_range => k_is)
    (case z_tuple => k_is)
    (case z_isinstance => k_is)
    (case z_str => k_is)
    (case z_sum => k_is)
    (case z_all => k_is)
    (case z_max => k_is)
    (case z_repr => k_is)
    (case z_min => k_is)
    (case z_enumerate => k_is)
    (case z_OverflowError => k_is)
    (case xw_LimitExceeded => k_is)
    (case xcl_LimitExceeded => k_is)
    (case xsa_LimitExceeded => k_is)
    (case xhd_LimitExceeded => k_is)
    (case xex_LimitExceeded => k_is)
    (case xty_LimitExceeded => k_is)
    (case xkp_LimitExceeded => k_is)
    (case xt0_LimitExceeded => k_is)
    (case xn0_LimitExceeded => k_is)
    (case xic_LimitExceeded => k_is)
    (case xti_LimitExceeded => k_is)
    (case xl_LimitExceeded => k_is)
    (case xc_LimitExceeded => k_is)
    (case xvv_LimitExceeded => k_is)
    (case xga_LimitExceeded => k_is)
    (case xgg_LimitExceeded => k_is)
    (case xis_LimitExceeded => k_is)
    (case xss_LimitExceeded => first | rfl | k_is)
