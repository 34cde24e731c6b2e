import PyProof.Rows.All
import Wide.All
import OpenK.AllK
import Wide.FinOn
import PyProof.Draws
import PyProof.Rows.SortShellAny
import HandS.Codes
import HandS.Conv
import HandS.DictComp
import HandS.ExcValue
import HandS.Flow
import HandS.ForMost
import HandS.GenList
import HandS.GenYield
import HandS.IsInst
import HandS.Replace
import HandS.Star
import HandS.Style
import HandS.TupAny
import HandS.TupMul
import HandS.Wide
import HandS.WideBits
import HandS.Zip
import PySem.Challenge.RW_fewtests_k02_small_writers_and_recipes_j
set_option Elab.async false
set_option linter.all false
set_option maxRecDepth 100000
set_option maxHeartbeats 2000000
set_option pp.maxSteps 1500
set_option pp.deepTerms false
namespace Toy
open PySem L2
open C8 (Cal cal0 pe_c pss_cut fnScope fnBody fnScope_by)
/-! ### the text by places -/
def top (i : Nat) : Stmt := PySem.Challenge.pw_fewtests_k02_small_writers_and_recipes_j.main.body.getD i (.Pass ⟨0, 0, 0, 0⟩)
abbrev st_is_small_ : Stmt := top 5
abbrev st_most_letters_ : Stmt := top 6
abbrev st_joined_ : Stmt := top 7
abbrev st_letters_in_ : Stmt := top 8
abbrev st_law_pen : Stmt := top 10
abbrev st_law_fresh : Stmt := top 11
abbrev st_law_draw : Stmt := top 12
abbrev st_law_one_of : Stmt := top 13
abbrev st_law_piece : Stmt := top 14
abbrev st_law_normal : Stmt := top 15
abbrev st_law_fill : Stmt := top 16
abbrev st_law_fills : Stmt := top 17
abbrev st_law_end : Stmt := top 18
abbrev st_law_writer : Stmt := top 19
abbrev st_law_at : Stmt := top 20
abbrev st_law_letters : Stmt := top 21
abbrev st_law_sized : Stmt := top 22
abbrev st_law_small : Stmt := top 23
abbrev st_law_ : Stmt := top 24

theorem iteT' {b : Bool} {A B : Prop} (e : b = true) (h : A) : if b = true then A else B := by
  rw [if_pos e]
  exact h
theorem iteF' {b : Bool} {A B : Prop} (e : b = false) (h : B) : if b = true then A else B := by
  rw [e]
  exact iteF h
/-! ### the pen -/
/-- the pen at p: cells at c (some ints), a place, what is left -/
def Pen (H : Hp) (p c : Addr) : Prop := ∃ (ns : List Int) (i j : Int), H p = some (.lst [.ref c, .int i, .int j]) ∧ H c = some (.lst (ns.map V.int))
theorem pen_ne {H : Hp} {p c : Addr} {ns : List Int} {i j : Int} (h : H p = some (.lst [.ref c, .int i, .int j])) (h2 : H c = some (.lst (ns.map V.int))) : p ≠ c := by
  refine ne_of h h2 fun e => ?_
  injection e with e
  cases ns with
  | nil => cases e
  | cons a r =>
    rw [List.map_cons] at e
    injection e with e1 e2
    cases e1
/-- all but p stands as it stood, the pen at p stands -/
structure Kp (p c : Addr) (H H' : Hp) : Prop where
  but : ∀ b o, b ≠ p → H b = some o → H' b = some o
  pen : Pen H' p c
theorem Kp.rfl' {p c : Addr} {H : Hp} (h : Pen H p c) : Kp p c H H := ⟨fun _ _ _ e => e, h⟩
theorem Kp.trans {p c : Addr} {H H1 H2 : Hp} (a : Kp p c H H1) (b : Kp p c H1 H2) : Kp p c H H2 := ⟨fun x o n e => b.but x o n (a.but x o n e), b.pen⟩
theorem Pen.ne {H : Hp} {p c q : Addr} (h : Pen H p c) (hq : H q = none) : q ≠ p := by
  obtain ⟨ns, i, j, h1, _⟩ := h
  exact (ne_of_none h1 hq).symm
theorem Pen.neC {H : Hp} {p c q : Addr} (h : Pen H p c) (hq : H q = none) : q ≠ c := by
  obtain ⟨ns, i, j, _, h1⟩ := h
  exact (ne_of_none h1 hq).symm
theorem Pen.put {H : Hp} {p c q : Addr} {o : HO} (h : Pen H p c) (n1 : q ≠ p) (n2 : q ≠ c) : Pen (upd H q o) p c := by
  obtain ⟨ns, i, j, h1, h2⟩ := h
  exact ⟨ns, i, j, by rw [upd_ne n1.symm]; exact h1, by rw [upd_ne n2.symm]; exact h2⟩
theorem Pen.new {H : Hp} {p c q : Addr} {o : HO} (h : Pen H p c) (hq : H q = none) : Pen (upd H q o) p c := h.put (h.ne hq) (h.neC hq)
theorem Kp.new {H H' : Hp} {p c q : Addr} {o : HO} (h : Kp p c H H') (hq : H' q = none) : Kp p c H (upd H' q o) :=
  ⟨fun b u n e => by rw [upd_ne (ne_of_none (h.but b u n e) hq)]; exact h.but b u n e, h.pen.new hq⟩
/-- something made since is changed -/
theorem Kp.put {H H' : Hp} {p c q : Addr} {o : HO} (h : Kp p c H H') (hP : Pen H p c) (hq : H q = none) : Kp p c H (upd H' q o) :=
  ⟨fun b u n e => by rw [upd_ne (ne_of_none e hq)]; exact h.but b u n e, h.pen.put (hP.ne hq) (hP.neC hq)⟩
theorem Kp.free {H H' : Hp} {p c q : Addr} (h : Kp p c H H') (hq : H' q = none) : H q = none := by
  cases e : H q with
  | none => rfl
  | some o =>
    rw [h.but q o (h.pen.ne hq) e] at hq
    cases hq
theorem Kp.seqL {K : PySem.W.Frag} {p c a : Addr} {H H' : Hp} {xs : List V} (k : Kp p c H H') (n : a ≠ p) (h : SqL K H a xs) : SqL K H' a xs := by
  rcases h with (h | ⟨o, h⟩) | h
  · exact .inl (.inl (k.but _ _ n h))
  · exact .inl (.inr ⟨o, k.but _ _ n h⟩)
  · exact .inr h

/-- the built-in names that these defs read -/
structure BN (mg : Str → Option Value) : Prop where
  list : mg "list" = none
  int : mg "int" = none
  len : mg "len" = none
  range : mg "range" = none

def spPen (K : PySem.W.Frag) : Sp := fun vs H Q _ => ∃ (a : Addr) (ns : List Int), vs = [.ref a] ∧ SqL K H a (ns.map V.int) ∧
  ∀ H' p c, Same H H' → Pen H' p c → H p = none → Q (.ref p) H'
def spFresh : Sp := fun vs H Q _ => ∃ p c : Addr, vs = [.ref p] ∧ Pen H p c ∧ ∀ (z : Int) H', Kp p c H H' → Q (.int z) H'
/-- a number from 0 to b - 1 -/
def spDraw : Sp := fun vs H Q _ => ∃ (p c : Addr) (b : Int), vs = [.ref p, .int b] ∧ Pen H p c ∧ 0 < b ∧ b.natAbs.log2 < 9000 ∧
  ∀ (d : Int) H', 0 ≤ d → d < b → Kp p c H H' → Q (.int d) H'

theorem sc_pen : FnScope ["script"] ["script"] (fnScope st_law_pen) := fnScope_by (by decide +kernel)
theorem sc_fresh : FnScope ["pen", "place", "cells", "cell", "prime", "state", "found", "lap"] ["pen"] (fnScope st_law_fresh) := fnScope_by (by decide +kernel)
theorem sc_draw : FnScope ["pen", "bound", "digit"] ["pen", "bound"] (fnScope st_law_draw) := fnScope_by (by decide +kernel)

/-- a list of ints is data -/
theorem dp_ints {K : PySem.W.Frag} {H : Hp} : ∀ ns : List Int, DpAll K H (ns.map V.int) (ns.map PyData.int)
  | [] => .nil
  | n :: r => .cons (.int n) (dp_ints r)
theorem shaped_ints (ns : List Int) : SeqAt.shaped (.list (ns.map PyData.int)) = true := by
  have h : ∀ l : List Int, PyData.canLayAll0 (l.map PyData.int) = true ∧ PyData.depthAll (l.map PyData.int) = 0 := by
    intro l
    induction l with
    | nil => exact ⟨by simp only [List.map_nil, PyData.canLayAll0], by simp only [List.map_nil, PyData.depthAll]⟩
    | cons a r ih => exact ⟨by simp only [List.map_cons, PyData.canLayAll0, PyData.canLay0, ih.1, Bool.and_self], by simp only [List.map_cons, PyData.depthAll, PyData.depth, ih.2, Nat.max_self]⟩
  unfold SeqAt.shaped
  simp only [PyData.canLay0, PyData.depth, (h ns).1, (h ns).2, Bool.true_and]
  decide
theorem ints_ne_nil (ns : List Int) : (!PyData.eqv (.list (ns.map PyData.int)) (.list [])) = !ns.isEmpty := by
  cases ns with
  | nil => simp only [List.map_nil, PyData.eqv, PyData.eqvAll, List.isEmpty_nil]
  | cons a r => simp only [List.map_cons, PyData.eqv, PyData.eqvAll, List.isEmpty_cons]
theorem prime_ok : (-(2 ^ 64) < (2305843009213693951 : Int) ∧ (2305843009213693951 : Int) < 2 ^ 64) := by decide

section
variable {P : Program} {w : World} {K : PySem.W.Frag} {mg : Str → Option Value} {base : Heap} {f : Addr} {fd : FuncData}
theorem cal_pen (F : C8.Def K mg "_law_pen" st_law_pen f fd) (b : Binds K fd ["script"] []) (B : BN mg) : Cal P w K mg base 1 "_law_pen" (spPen K) [] := by
  refine cal0 F b .nil sc_pen (fun vs H Q E h => ?_) (fun cdv A outer s H vs Q E hr h => ?_)
  · obtain ⟨a, ns, rfl, _⟩ := h
    rfl
  · obtain ⟨a, ns, rfl, hS, k⟩ := h
    refine ⟨_, pss_one (ps_ret (pe_lst (pa_cons (pe_callTy call_list_of (by rfl) B.list (by decide +kernel) (pa_cons (pe_slice sl_list (pv 0) po_none (po_some pe_int)) pa_nil)) (pa_cons pe_int (pa_cons pe_int pa_nil))))), ?_⟩
    refine ⟨_, rfl, _, rfl, a, _, rfl, hS, fun p hp => ?_⟩
    refine ⟨p, _, rfl, .inl (SqL.of upd_same), fun l hl => ?_⟩
    refine ⟨(by show 3 ≤ sizeLine; decide), fun q hq => ?_⟩
    have hl0 : H l = none := by
      have n : l ≠ p := fun z => by
        rw [z, upd_same] at hl
        cases hl
      rw [upd_ne n] at hl
      exact hl
    have s1 : Same H (upd (upd H p (.lst (cutV (ns.map V.int) none (some 63)))) l (.lst (cutV (ns.map V.int) none (some 63)))) := fun b o e => by
      rw [upd_ne (ne_of_none e hl0), upd_ne (ne_of_none e hp)]
      exact e
    obtain ⟨ms, hms⟩ : ∃ ms : List Int, cutV (ns.map V.int) none (some 63) = ms.map V.int := by
      unfold cutV
      rw [← List.map_drop, ← List.map_take]
      exact ⟨_, rfl⟩
    refine k _ q l (fun b o e => ?_) ⟨ms, 0, 0, upd_same, ?_⟩ (s1.free hq)
    · rw [upd_ne (ne_of_none (s1 b o e) hq)]
      exact s1 b o e
    · have n : l ≠ q := fun z => by
        rw [← z, upd_same] at hq
        cases hq
      rw [upd_ne n, upd_same, hms]
theorem cal_fresh (F : C8.Def K mg "_law_fresh" st_law_fresh f fd) (b : Binds K fd ["pen"] []) (B : BN mg) : Cal P w K mg base 1 "_law_fresh" spFresh [] := by
  refine cal0 F b .nil sc_fresh (fun vs H Q E h => ?_) (fun cdv A outer s H vs Q E hr h => ?_)
  · obtain ⟨p, c, rfl, _⟩ := h
    rfl
  · obtain ⟨p, c, rfl, ⟨ns, i, j, hp, hc⟩, k⟩ := h
    have hpc := pen_ne hp hc
    refine ⟨_, pss_cons (ps_par (i := 1) (j := 2) rfl sc_fresh.nd rfl rfl (by decide) rfl rfl (pa_cons (pe_ix ix_list (pv 0) pe_int (fun _ _ => rfl)) (pa_cons (pe_ix ix_list (pv 0) pe_int (fun _ _ => rfl)) pa_nil)) (by rfl))
      (pss_cons (ps_asg (pe_op op_add (pv 1) pe_int) (pg_sub (pv 0) pe_int set_list))
      (pss_cut (ps_set (i := 3) sc_fresh.nd rfl (Or.inl rfl) (pe_ifExp (pt_cmpR (op_neD hr.units) (pv 2) (pe_lst pa_nil) (nomark _)) (pe_ix ix_list (pv 2) (pe_op op_mod (pe_callTy call_int1 (by rfl) B.int (by decide +kernel) (pa_cons (pv 1) pa_nil)) (pe_callB call_len_seq (by rfl) B.len PySem.boot_len (pa_cons (pv 2) pa_nil))) (fun _ _ => rfl)) pe_int))
      (pss_cut (ps_if (PW.pt (pw_and (pt_cmpR op_lt (pv 1) (pe_callB call_len_seq (by rfl) B.len PySem.boot_len (pa_cons (pv 2) pa_nil)) (nomark _)) (pw_and1 (pt_cmpR op_ge (pv 3) (pe_op op_pow pe_int pe_int) (nomark _))))) (pss_one (ps_ret (pe_op op_sub (pv 3) (pe_op op_pow pe_int pe_int)))) pss_nil)
      (pss_cons (ps_set (i := 4) sc_fresh.nd rfl (Or.inl rfl) pe_int)
      (pss_cons (ps_set (i := 5) sc_fresh.nd rfl (Or.inl rfl) (pe_op op_mod (pe_callTy call_int1 (by rfl) B.int (by decide +kernel) (pa_cons (pe_op op_add (pe_op op_add (pe_op op_mul (pv 3) pe_int) (pe_op op_mul pe_int (pv 1))) pe_int) pa_nil)) (pv 4)))
      (pss_cons (ps_set (i := 6) sc_fresh.nd rfl (Or.inl rfl) (pv 5))
      (pss_cons (ps_for PassesOwn.never rfl (pi_range1 rfl B.range (pa_cons pe_int pa_nil)) (pg_name (i := 7) sc_fresh.nd rfl (Or.inl rfl))
        (pss_cons (ps_set (i := 5) sc_fresh.nd rfl (Or.inl rfl) (pe_op op_mod (pe_callTy call_int1 (by rfl) B.int (by decide +kernel) (pa_cons (pe_op op_add (pe_op op_add (pe_op op_mul (pv 5) (pv 5)) (pe_op op_mul (pe_op op_mul pe_int (pe_op op_add (pv 7) pe_int)) (pe_op op_add (pv 1) pe_int))) (pv 3)) pa_nil)) (pv 4)))
        (pss_one (ps_set (i := 6) sc_fresh.nd rfl (Or.inl rfl) (pe_op op_add (pe_op op_mul (pv 6) (pv 4)) (pv 5))))))
      (pss_one (ps_ret (pv 6)))))))))), ?_⟩
    refine ⟨_, rfl, p, _, _, _, rfl, rfl, SqL.of hp, atI_nat (j := 1) rfl, _, rfl, p, _, _, _, rfl, rfl, SqL.of hp, atI_nat (j := 0) rfl, _, _, rfl, ?_⟩
    refine ⟨_, rfl, _, _, rfl, rfl, _, rfl, p, _, _, 1, rfl, rfl, hp, rfl, ?_⟩
    have hp1 : upd H p (.lst [.ref c, .int (i + 1), .int j]) p = some (.lst [.ref c, .int (i + 1), .int j]) := upd_same
    have hc1 : upd H p (.lst [.ref c, .int (i + 1), .int j]) c = some (.lst (ns.map V.int)) := by
      rw [upd_ne hpc.symm]
      exact hc
    have k1 : Kp p c H (upd H p (.lst [.ref c, .int (i + 1), .int j])) := ⟨fun b o n e => by rw [upd_ne n]; exact e, ns, i + 1, j, hp1, hc1⟩
    -- behind the third statement the cell is some number; a new empty list stands
    refine ⟨fun σ H' => (∃ z : Int, σ = [some (.ref p), some (.int i), some (.ref c), some (.int z), none, none, none, none]) ∧ Kp p c H H' ∧ H' c = some (.lst (ns.map V.int)), ?_, ?_⟩
    · refine ⟨_, rfl, Nat.zero_le _, fun q hq => ?_⟩
      have k2 : Kp p c H (upd (upd H p (.lst [.ref c, .int (i + 1), .int j])) q (.lst [])) := k1.new hq
      have hc2 : upd (upd H p (.lst [.ref c, .int (i + 1), .int j])) q (.lst []) c = some (.lst (ns.map V.int)) := by
        rw [upd_ne (ne_of_none hc1 hq)]
        exact hc1
      refine ⟨.list (ns.map PyData.int), .list [], .lst (SqL.of hc2) (dp_ints ns), .lst (SqL.of upd_same) .nil, shaped_ints ns, by decide, _, rfl, ?_⟩
      rw [ints_ne_nil]
      cases ns with
      | nil =>
        refine iteF ?_
        exact ⟨⟨0, rfl⟩, k2, hc2⟩
      | cons n r =>
        refine iteT ?_
        have hm : (0 : Int) ≤ i % (((n :: r).map V.int).length : Nat) ∧ i % (((n :: r).map V.int).length : Nat) < (((n :: r).map V.int).length : Nat) := by
          have h0 : (0 : Int) < (((n :: r).map V.int).length : Nat) := by
            rw [List.length_map, List.length_cons]
            omega
          exact ⟨Int.emod_nonneg _ (by omega), Int.emod_lt_of_pos _ h0⟩
        obtain ⟨u, hu⟩ : ∃ u : Nat, i % (((n :: r).map V.int).length : Nat) = (u : Int) := ⟨_, (Int.toNat_of_nonneg hm.1).symm⟩
        have hlt : u < (n :: r).length := by
          have q := hm.2
          rw [hu, List.length_map] at q
          omega
        refine ⟨_, rfl, _, rfl, .inl ⟨_, rfl, _, rfl, c, _, rfl, .inl (SqL.of hc2), _, _, rfl, rfl, ?_, c, _, _, .int ((n :: r)[u]), rfl, rfl, SqL.of hc2, ?_, ⟨_, rfl⟩, k2, hc2⟩⟩
        · rw [List.length_map, List.length_cons]
          omega
        · rw [hu]
          exact atI_nat (by rw [List.getElem?_map, List.getElem?_eq_getElem hlt]; rfl)
    · rintro σ H2 ⟨⟨z, rfl⟩, k2, hc2⟩
      refine ⟨fun σ H' => σ = [some (.ref p), some (.int i), some (.ref c), some (.int z), none, none, none, none] ∧ H' = H2, ?_, ?_⟩
      · refine ⟨_, rfl, _, rfl, c, _, rfl, .inl (SqL.of hc2), _, _, rfl, rfl, _, rfl, ?_⟩
        refine ite2 (fun _ => ?_) (fun _ => ?_)
        · refine ⟨_, rfl, _, _, rfl, rfl, ⟨by decide, by decide, by decide⟩, _, _, rfl, rfl, _, rfl, ?_⟩
          refine ite2 (fun _ => ?_) (fun _ => ?_)
          · exact ⟨_, rfl, _, _, rfl, rfl, ⟨by decide, by decide, by decide⟩, _, _, rfl, rfl, k _ _ k2⟩
          · exact ⟨rfl, rfl⟩
        · exact iteF ⟨rfl, rfl⟩
      · rintro σ H3 ⟨rfl, rfl⟩
        refine ⟨_, rfl, _, _, rfl, rfl, .inr ⟨by decide, by decide⟩, _, rfl, _, _, rfl, rfl, .inl ⟨by decide, by decide⟩, _, _, rfl, rfl, _, _, rfl, rfl, .inl ⟨_, rfl, ?_⟩⟩
        refine ⟨_, rfl, _, _, rfl, rfl, (by show (0 : Int) < 2305843009213693951; decide), ?_⟩
        refine ⟨_, rfl, ?_⟩
        refine ⟨6, rfl, by decide, by decide, for_range (n := 6) (fun _ σ H' => H' = H3 ∧ ∃ (st fo : Int) (v : Option V), 0 ≤ st ∧ st < 2305843009213693951 ∧ σ = [some (.ref p), some (.int i), some (.ref c), some (.int z), some (.int 2305843009213693951), some (.int st), some (.int fo), v]) ⟨rfl, _, _, _, Int.emod_nonneg _ (by decide), Int.emod_lt_of_pos _ (by decide), rfl⟩ ?_ ?_⟩
        · rintro i' σ H4 hi ⟨rfl, st, fo, v, h0, h1, rfl⟩
          refine ⟨_, rfl, _, rfl, _, _, rfl, rfl, .inl ⟨by omega, by omega⟩, _, rfl, _, _, rfl, rfl, _, _, rfl, rfl, .inl ⟨by decide, by decide⟩, _, rfl, _, _, rfl, rfl, _, _, rfl, rfl, .inl ⟨by omega, by omega⟩, _, _, rfl, rfl, _, rfl, _, _, rfl, rfl, .inl ⟨_, rfl, ?_⟩⟩
          refine ⟨_, rfl, _, _, rfl, rfl, (by show (0 : Int) < 2305843009213693951; decide), ?_⟩
          refine ⟨_, rfl, _, rfl, _, _, rfl, rfl, .inr prime_ok, _, rfl, _, _, rfl, rfl, ?_⟩
          exact ⟨rfl, _, _, _, Int.emod_nonneg _ (by decide), Int.emod_lt_of_pos _ (by decide), rfl⟩
        · rintro σ H4 ⟨rfl, st, fo, v, h0, h1, rfl⟩
          exact ⟨_, rfl, k _ _ k2⟩
theorem cal_draw (F : C8.Def K mg "_law_draw" st_law_draw f fd) (b : Binds K fd ["pen", "bound"] []) (B : BN mg) (Cf : Cal P w K mg base 1 "_law_fresh" spFresh []) : Cal P w K mg base 2 "_law_draw" spDraw [] := by
  refine cal0 F b .nil sc_draw (fun vs H Q E h => ?_) (fun cdv A outer s H vs Q E hr h => ?_)
  · obtain ⟨p, c, n, rfl, _⟩ := h
    rfl
  · obtain ⟨p, c, n, rfl, hP, h0, h9, k⟩ := h
    refine ⟨_, pss_cut (ps_if (pt_cmpR op_lt (pe_ix ix_list (pv 0) pe_int (fun _ _ => rfl)) (pv 1) (nomark _)) (pss_one (ps_asg (pe_c Cf hr (by decide) (by rfl) (pa_cons (pv 0) pa_nil)) (pg_sub (pv 0) pe_int set_list))) pss_nil)
      (pss_cons (ps_set (i := 2) sc_draw.nd rfl (Or.inl rfl) (pe_op op_mod (pe_callTy call_int1 (by rfl) B.int (by decide +kernel) (pa_cons (pe_ix ix_list (pv 0) pe_int (fun _ _ => rfl)) pa_nil)) (pv 1)))
      (pss_cons (ps_asg (pe_op op_fdivW (pe_callTy call_int1 (by rfl) B.int (by decide +kernel) (pa_cons (pe_ix ix_list (pv 0) pe_int (fun _ _ => rfl)) pa_nil)) (pv 1)) (pg_sub (pv 0) pe_int set_list))
      (pss_one (ps_ret (pv 2))))), ?_⟩
    refine ⟨fun σ H' => σ = [some (.ref p), some (.int n), none] ∧ Kp p c H H', ?_, ?_⟩
    · obtain ⟨ns, i, j, hp, hc⟩ := id hP
      refine ⟨_, rfl, p, _, _, _, rfl, rfl, SqL.of hp, atI_nat (j := 2) rfl, _, rfl, _, _, rfl, rfl, _, rfl, ?_⟩
      refine ite2 (fun _ => ?_) (fun _ => ?_)
      · refine ⟨_, rfl, p, c, rfl, hP, fun z H1 k1 => ?_⟩
        obtain ⟨ns1, i1, j1, hp1, hc1⟩ := k1.pen
        refine ⟨_, rfl, p, _, _, 2, rfl, rfl, hp1, rfl, rfl, k1.trans ⟨fun b o n e => by rw [upd_ne n]; exact e, ns1, i1, z, upd_same, ?_⟩⟩
        rw [upd_ne (pen_ne hp1 hc1).symm]
        exact hc1
      · exact ⟨rfl, Kp.rfl' hP⟩
    · rintro σ H1 ⟨rfl, k1⟩
      obtain ⟨ns, i, j, hp, hc⟩ := k1.pen
      refine ⟨_, rfl, p, _, _, _, rfl, rfl, SqL.of hp, atI_nat (j := 2) rfl, .inl ⟨_, rfl, _, rfl, _, _, rfl, rfl, h0, ?_⟩⟩
      refine ⟨_, rfl, p, _, _, _, rfl, rfl, SqL.of hp, atI_nat (j := 2) rfl, .inl ⟨_, rfl, _, rfl, _, _, rfl, rfl, ⟨h0, h9⟩, _, rfl, p, _, _, 2, rfl, rfl, hp, rfl, ?_⟩⟩
      refine ⟨_, rfl, k _ _ (Int.emod_nonneg _ (by omega)) (Int.emod_lt_of_pos _ h0) (k1.trans ⟨fun b o n e => by rw [upd_ne n]; exact e, ns, i, j / n, upd_same, ?_⟩)⟩
      rw [upd_ne (pen_ne hp hc).symm]
      exact hc
end

/-! ### one of some things; texts, words -/
/-- a part of a list that is not the pen, or a sign of a text -/
def spOne (K : PySem.W.Frag) : Sp := fun vs H Q _ => ∃ p c : Addr, Pen H p c ∧
  ((∃ (a : Addr) (xs : List V), vs = [.ref p, .ref a] ∧ a ≠ p ∧ SqL K H a xs ∧ 0 < xs.length ∧ xs.length < 1000 ∧ ∀ (x : V) H', x ∈ xs → Kp p c H H' → Q x H') ∨
   (∃ z : Str, vs = [.ref p, .str z] ∧ 0 < z.length ∧ z.length < 1000 ∧ ∀ (g : Nat) H', g ∈ z.cps.toList → Kp p c H H' → Q (.str ⟨#[g]⟩) H'))
theorem sc_one : FnScope ["pen", "rows"] ["pen", "rows"] (fnScope st_law_one_of) := fnScope_by (by decide +kernel)
theorem log_small {b : Int} (h0 : 0 < b) (h : b < 1000) : b.natAbs.log2 < 9000 := by
  have h1 : b.natAbs ≠ 0 := by omega
  rw [Nat.log2_lt h1]
  exact Nat.lt_of_lt_of_le (show b.natAbs < 2 ^ 10 by omega) (Nat.pow_le_pow_right (by decide) (by decide))

/-- a text of small letters, not longer than n -/
structure Tx (n : Nat) (z : Str) : Prop where
  len : z.length ≤ n
  low : ∀ c ∈ z.cps.toList, 97 ≤ c ∧ c ≤ 122
def spPiece : Sp := fun vs H Q _ => ∃ (p c : Addr) (m : Nat), vs = [.ref p, .int m] ∧ Pen H p c ∧ 0 < m ∧ m < 900 ∧
  ∀ (z : Str) H', 0 < z.length → Tx m z → Kp p c H H' → Q (.str z) H'
def abc : List Str := ["ab", "ab", "a", "abc", "abcdefghijklmnopqrstuvwxyz"]
theorem abc_low : ∀ z ∈ abc, 0 < z.length ∧ z.length < 1000 ∧ ∀ c ∈ z.cps.toList, 97 ≤ c ∧ c ≤ 122 := by decide +kernel
/-- texts joined: their signs one behind the other -/
theorem join_nil : ∀ l : List (List Nat), TL.joinL [] l = l.flatten
  | [] => rfl
  | [x] => by
    show x = [x].flatten
    rw [List.flatten_cons, List.flatten_nil, List.append_nil]
  | x :: z :: r => by
    show x ++ ([] ++ TL.joinL [] (z :: r)) = (x :: z :: r).flatten
    rw [List.nil_append, join_nil (z :: r), List.flatten_cons (l := x)]
theorem join_cps (ys : List Str) : (Txt.join "" ys).cps.toList = (ys.map fun y => y.cps.toList).flatten := by
  have e : TL.tl (Txt.join "" ys) = TL.joinL (TL.tl "") (ys.map TL.tl) := (congrArg TL.tl (TL.join_eq "" ys)).trans (TL.tl_join "" ys)
  exact e.trans (join_nil _)
theorem join_len (ys : List Str) : (Txt.join "" ys).length = (ys.map (·.length)).sum := by
  have e : (Txt.join "" ys).length = (Txt.join "" ys).cps.toList.length := (Array.length_toList).symm
  rw [e, join_cps, List.length_flatten, List.map_map]
  exact congrArg List.sum (List.map_congr_left fun y _ => Array.length_toList)
theorem lens_one : ∀ ys : List Str, (∀ y ∈ ys, y.length = 1) → (ys.map (·.length)).sum = ys.length
  | [], _ => rfl
  | y :: r, h => by
    rw [List.map_cons, List.sum_cons, h y List.mem_cons_self, lens_one r fun z hz => h z (List.mem_cons_of_mem _ hz), List.length_cons]
    omega
section
variable {P : Program} {w : World} {K : PySem.W.Frag} {mg : Str → Option Value} {base : Heap} {f : Addr} {fd : FuncData}
theorem cal_one (F : C8.Def K mg "_law_one_of" st_law_one_of f fd) (b : Binds K fd ["pen", "rows"] []) (B : BN mg) (Cd : Cal P w K mg base 2 "_law_draw" spDraw []) : Cal P w K mg base 3 "_law_one_of" (spOne K) [] := by
  refine cal0 F b .nil sc_one (fun vs H Q E h => ?_) (fun cdv A outer s H vs Q E hr h => ?_)
  · obtain ⟨p, c, _, h⟩ := h
    rcases h with ⟨a, xs, rfl, _⟩ | ⟨z, rfl, _⟩ <;> rfl
  · obtain ⟨p, c, hP, h⟩ := h
    refine ⟨_, pss_one (ps_ret (pe_ix (IxR.or ix_list ix_str) (pv 1) (pe_c Cd hr (by decide) (by rfl) (pa_cons (pv 0) (pa_cons (pe_callB (CallR.or call_len_seq call_len_str) (by rfl) B.len PySem.boot_len (pa_cons (pv 1) pa_nil)) pa_nil))) (fun _ _ => rfl))), ?_⟩
    rcases h with ⟨a, xs, rfl, na, hS, h0, h1, k⟩ | ⟨z, rfl, h0, h1, k⟩
    · refine ⟨_, rfl, _, rfl, _, rfl, .inl ⟨a, xs, rfl, .inl hS, p, c, _, rfl, hP, by omega, log_small (by omega) (by omega), fun d H1 d0 d1 k1 => ?_⟩⟩
      obtain ⟨u, rfl⟩ : ∃ u : Nat, d = (u : Int) := ⟨_, (Int.toNat_of_nonneg d0).symm⟩
      have hlt : u < xs.length := by omega
      exact .inl ⟨a, xs, _, xs[u], rfl, rfl, k1.seqL na hS, atI_nat (List.getElem?_eq_getElem hlt), k _ _ (List.getElem_mem hlt) k1⟩
    · refine ⟨_, rfl, _, rfl, _, rfl, .inr ⟨z, rfl, Nat.le_of_lt (Nat.lt_of_lt_of_le h1 (by decide)), p, c, _, rfl, hP, by omega, log_small (by omega) (by omega), fun d H1 d0 d1 k1 => ?_⟩⟩
      obtain ⟨u, rfl⟩ : ∃ u : Nat, d = (u : Int) := ⟨_, (Int.toNat_of_nonneg d0).symm⟩
      have hlt : u < z.cps.toList.length := by
        rw [Array.length_toList]
        have e : z.length = z.cps.size := rfl
        omega
      exact .inr ⟨z, _, z.cps.toList[u], rfl, rfl, Nat.le_of_lt (Nat.lt_of_lt_of_le h1 (by decide)), atI_nat (List.getElem?_eq_getElem hlt), k _ _ (List.getElem_mem hlt) k1⟩
end

/-! ### a drawn text -/
theorem sc_piece : FnScope ["pen", "most", "letters", "lap"] ["pen", "most"] (fnScope st_law_piece) := fnScope_by (by decide +kernel)
section
variable {P : Program} {w : World} {K : PySem.W.Frag} {mg : Str → Option Value} {base : Heap} {f : Addr} {fd : FuncData}
theorem cal_piece (F : C8.Def K mg "_law_piece" st_law_piece f fd) (b : Binds K fd ["pen", "most"] []) (B : BN mg) (Cd : Cal P w K mg base 2 "_law_draw" spDraw []) (Co : Cal P w K mg base 3 "_law_one_of" (spOne K) []) : Cal P w K mg base 4 "_law_piece" spPiece [] := by
  refine cal0 F b .nil sc_piece (fun vs H Q E h => ?_) (fun cdv A outer s H vs Q E hr h => ?_)
  · obtain ⟨p, c, m, rfl, _⟩ := h
    rfl
  · obtain ⟨p, c, m, rfl, hP, m0, m9, k⟩ := h
    refine ⟨_, pss_cons (ps_set (i := 2) sc_piece.nd rfl (Or.inr rfl) (pe_c Co hr (by decide) (by rfl) (pa_cons (pv 0) (pa_cons (pe_lst (pa_cons pe_str (pa_cons pe_str (pa_cons pe_str (pa_cons pe_str (pa_cons pe_str pa_nil)))))) pa_nil))))
      (pss_one (ps_ret (pe_join pe_str (pe_lc (own := [("lap", 3)]) (g := gName 3) (tt := tYes) (by rfl) sc_piece.nd (pi_range1 rfl B.range (pa_cons (pe_op op_add pe_int (pe_c Cd hr (by decide) (by rfl) (pa_cons (pv 0) (pa_cons (pv 1) pa_nil)))) pa_nil))
        (blkOk_by (own := [("lap", 3)]) (N := ["pen", "most", "letters", "lap"]) (sc := fnScope st_law_piece) (by decide +kernel)) (fun _ _ _ _ _ => pg_name (i := 3) sc_piece.nd rfl (Or.inl rfl)) (fun _ _ _ _ _ => pts_nil)
        (fun _ _ _ _ _ => pe_c Co hr (by decide) (by rfl) (pa_cons (pv 0) (pa_cons (pv 2) pa_nil))))))), ?_⟩
    refine ⟨_, rfl, (by show 5 ≤ sizeLine; decide), fun a ha => ⟨p, c, hP.new ha, .inl ⟨a, _, rfl, hP.ne ha, SqL.of upd_same, by decide, by decide, fun x H1 hx k1 => ?_⟩⟩⟩
    obtain ⟨z, hz, rfl⟩ : ∃ z ∈ abc, x = V.str z := by
      have hx' : x ∈ abc.map V.str := hx
      obtain ⟨z, h1, h2⟩ := List.mem_map.mp hx'
      exact ⟨z, h1, h2.symm⟩
    obtain ⟨z0, z1, z2⟩ := abc_low z hz
    have kA : Kp p c H H1 := (Kp.new (Kp.rfl' hP) ha).trans k1
    refine ⟨⟨_, rfl⟩, ?_⟩
    refine ⟨_, rfl, _, rfl, p, c, m, rfl, kA.pen, by omega, log_small (by omega) (by omega), fun d H2 d0 d1 k2 => ?_⟩
    have kB : Kp p c H H2 := kA.trans k2
    refine ⟨_, _, rfl, rfl, 1 + d, rfl, by omega, by omega, fun D hD => ?_⟩
    refine lc_range (lo := 0) (n := (1 + d).toNat) (fun i H' => Kp p c H H' ∧ ∃ ys : List Str, H' D = some (.lst (ys.map V.str)) ∧ H D = none ∧ ys.length = i ∧ ∀ y ∈ ys, y.length = 1 ∧ ∀ c ∈ y.cps.toList, 97 ≤ c ∧ c ≤ 122)
      ⟨kB.new hD, [], upd_same, kB.free hD, rfl, fun y hy => by cases hy⟩ ?_ ?_
    · rintro i H3 hi ⟨k3, ys, hL, hD0, hl, hy⟩
      refine ⟨rfl, ?_⟩
      refine ⟨_, rfl, _, rfl, p, c, k3.pen, .inr ⟨z, rfl, z0, z1, fun g H4 hg k4 => ?_⟩⟩
      have nD : D ≠ p := hP.ne hD0
      have hL4 : H4 D = some (.lst (ys.map V.str)) := k4.but _ _ nD hL
      refine ⟨_, hL4, ?_, ?_⟩
      · rw [List.length_map]
        exact Nat.lt_of_lt_of_le (show ys.length < 1000 by omega) (by decide)
      · refine ⟨(k3.trans k4).put hP hD0, ys ++ [⟨#[g]⟩], ?_, hD0, ?_, ?_⟩
        · rw [upd_same, List.map_append]
          rfl
        · rw [List.length_append, hl]
          rfl
        · intro y hm
          rcases List.mem_append.mp hm with hm | hm
          · exact hy y hm
          · obtain rfl := List.mem_singleton.mp hm
            exact ⟨rfl, fun c' hc' => by
              obtain rfl : c' = g := by simpa using hc'
              exact z2 _ hg⟩
    · rintro H3 ⟨k3, ys, hL, hD0, hl, hy⟩
      refine ⟨_, D, ys, rfl, rfl, .inl (SqL.of hL), ?_, ?_⟩
      · rw [lens_one ys fun y hy' => (hy y hy').1]
        have e0 : (("" : Str)).length = 0 := by decide
        rw [e0]
        omega
      · refine k _ _ ?_ ⟨?_, ?_⟩ k3
        · rw [join_len, lens_one ys fun y hy' => (hy y hy').1]
          omega
        · rw [join_len, lens_one ys fun y hy' => (hy y hy').1]
          omega
        · intro c' hc'
          rw [join_cps] at hc'
          obtain ⟨l, h1, h2⟩ := List.mem_flatten.mp hc'
          obtain ⟨y, h3, rfl⟩ := List.mem_map.mp h1
          exact (hy y h3).2 _ h2
end

/-! ### recipes: parts, their buffers, their letters -/
inductive Pt where
  | s (z : Str)
  | b (i : Nat)
abbrev Rc := List Pt
def Pt.v : Pt → V
  | .s z => .str z
  | .b i => .int i
def Pt.d : Pt → PyData
  | .s z => .str z
  | .b i => .int i
def Pt.buf : Pt → List Nat
  | .s _ => []
  | .b i => [i]
def Pt.let : Pt → Nat
  | .s z => z.length
  | .b _ => 0
def Pt.low : Pt → Prop
  | .s z => ∀ c ∈ z.cps.toList, 97 ≤ c ∧ c ≤ 122
  | .b _ => True
def bufs (r : Rc) : List Nat := r.flatMap Pt.buf
def lets (r : Rc) : Nat := (r.map Pt.let).sum
def lowR (r : Rc) : Prop := ∀ q ∈ r, q.low
theorem bufs_app (a b : Rc) : bufs (a ++ b) = bufs a ++ bufs b := List.flatMap_append
theorem lets_app (a b : Rc) : lets (a ++ b) = lets a + lets b := by
  unfold lets
  rw [List.map_append, List.sum_append]
theorem lets_one (q : Pt) : lets [q] = q.let := by
  unfold lets
  rw [List.map_cons, List.map_nil, List.sum_cons, List.sum_nil, Nat.add_zero]
theorem bufs_one (q : Pt) : bufs [q] = q.buf := by
  unfold bufs
  rw [List.flatMap_cons, List.flatMap_nil, List.append_nil]
theorem lowR_app {a b : Rc} (h : lowR a) (h2 : lowR b) : lowR (a ++ b) := fun q hq => (List.mem_append.mp hq).elim (h q) (h2 q)
theorem lowR_one {q : Pt} (h : q.low) : lowR [q] := fun x hx => by
  obtain rfl := List.mem_singleton.mp hx
  exact h
theorem low_strOk {z : Str} (h : ∀ c ∈ z.cps.toList, 97 ≤ c ∧ c ≤ 122) : PyData.strOk z = true := by
  unfold PyData.strOk
  rw [← Array.all_toList, List.all_eq_true]
  intro c hc
  have q := (h c hc).2
  exact decide_eq_true (by omega)
theorem low_cat {x y : Str} (h : ∀ c ∈ x.cps.toList, 97 ≤ c ∧ c ≤ 122) (h2 : ∀ c ∈ y.cps.toList, 97 ≤ c ∧ c ≤ 122) : ∀ c ∈ (x ++ y).cps.toList, 97 ≤ c ∧ c ≤ 122 := by
  intro c hc
  rw [Str.cps_append, Array.toList_append] at hc
  exact (List.mem_append.mp hc).elim (h c) (h2 c)
theorem len_cat (x y : Str) : (x ++ y).length = x.length + y.length := by
  show (x ++ y).cps.size = x.cps.size + y.cps.size
  rw [Str.cps_append, Array.size_append]

/-- the parts put together: pieces side by side become one -/
def nstep (f : Rc) : Pt → Rc
  | .b i => f ++ [.b i]
  | .s z => match f.getLast? with
    | some (.s y) => f.dropLast ++ [.s (y ++ z)]
    | _ => if z = "" then f else f ++ [.s z]
def normal (ps : Rc) : Rc := ps.foldl nstep []
theorem nstep_glue (g : Rc) (y z : Str) : nstep (g ++ [.s y]) (.s z) = g ++ [.s (y ++ z)] := by
  unfold nstep
  rw [List.getLast?_concat, List.dropLast_concat]
theorem nstep_behind (g : Rc) (i : Nat) (z : Str) : nstep (g ++ [.b i]) (.s z) = if z = "" then g ++ [.b i] else g ++ [.b i] ++ [.s z] := by
  unfold nstep
  rw [List.getLast?_concat]
theorem nstep_first (z : Str) : nstep [] (.s z) = if z = "" then [] else [.s z] := rfl
theorem len_empty {z : Str} (h : z = "") : z.length = 0 := by
  subst h
  decide
structure NOk (f : Rc) (q : Pt) (g : Rc) : Prop where
  buf : bufs g = bufs f ++ q.buf
  lt : lets g = lets f + q.let
  len : g.length ≤ f.length + 1
  low : lowR f → q.low → lowR g
theorem nok_push (f : Rc) (q : Pt) : NOk f q (f ++ [q]) :=
  ⟨by rw [bufs_app, bufs_one], by rw [lets_app, lets_one], by rw [List.length_append, List.length_singleton]; exact Nat.le_refl _, fun h1 h2 => lowR_app h1 (lowR_one h2)⟩
theorem nok_same (f : Rc) {z : Str} (h : z = "") : NOk f (.s z) f :=
  ⟨(List.append_nil _).symm, by show lets f = lets f + z.length; rw [len_empty h, Nat.add_zero], Nat.le_succ _, fun h1 _ => h1⟩
theorem nok_glue (g : Rc) (y z : Str) : NOk (g ++ [.s y]) (.s z) (g ++ [.s (y ++ z)]) := by
  refine ⟨?_, ?_, ?_, fun h1 h2 => ?_⟩
  · rw [bufs_app, bufs_app, bufs_one, bufs_one]
    show bufs g ++ [] = bufs g ++ [] ++ []
    rw [List.append_nil, List.append_nil]
  · rw [lets_app, lets_app, lets_one, lets_one]
    show lets g + (y ++ z).length = lets g + y.length + z.length
    rw [len_cat, Nat.add_assoc]
  · rw [List.length_append, List.length_append]
    exact Nat.le_succ _
  · refine lowR_app (fun q hq => h1 q (List.mem_append_left _ hq)) (lowR_one ?_)
    exact low_cat (h1 (.s y) (List.mem_append_right _ (List.mem_singleton.mpr rfl))) h2
theorem nstep_ok (f : Rc) (q : Pt) : NOk f q (nstep f q) := by
  cases q with
  | b i => exact nok_push f _
  | s z =>
    rcases List.eq_nil_or_concat f with rfl | ⟨g, l, rfl⟩
    · rw [nstep_first]
      by_cases h : z = ""
      · rw [if_pos h]
        exact nok_same [] h
      · rw [if_neg h]
        exact nok_push [] _
    · rw [List.concat_eq_append]
      cases l with
      | s y =>
        rw [nstep_glue]
        exact nok_glue g y z
      | b i =>
        rw [nstep_behind]
        by_cases h : z = ""
        · rw [if_pos h]
          exact nok_same _ h
        · rw [if_neg h]
          exact nok_push _ _
theorem normal_ok : ∀ (ps f : Rc), bufs (ps.foldl nstep f) = bufs f ++ bufs ps ∧ lets (ps.foldl nstep f) = lets f + lets ps ∧ (ps.foldl nstep f).length ≤ f.length + ps.length ∧ (lowR f → lowR ps → lowR (ps.foldl nstep f))
  | [], f => ⟨(List.append_nil _).symm, rfl, Nat.le_refl _, fun h _ => h⟩
  | q :: r, f => by
    have a := nstep_ok f q
    obtain ⟨h1, h2, h3, h4⟩ := normal_ok r (nstep f q)
    rw [List.foldl_cons]
    refine ⟨?_, ?_, ?_, fun l1 l2 => ?_⟩
    · rw [h1, a.buf, List.append_assoc]
      exact congrArg _ (List.flatMap_cons).symm
    · rw [h2, a.lt, Nat.add_assoc]
      rfl
    · rw [List.length_cons]
      have := a.len
      omega
    · exact h4 (a.low l1 (l2 q List.mem_cons_self)) fun x hx => l2 x (List.mem_cons_of_mem _ hx)
theorem foldl_more {α β : Type} (g : β → α → β) (b : β) {l : List α} {i : Nat} {x : α} (h : l[i]? = some x) : (l.take (i + 1)).foldl g b = g ((l.take i).foldl g b) x := by
  have e : l.take (i + 1) = l.take i ++ [x] := by
    rw [List.take_add_one, h]
    rfl
  rw [e, List.foldl_append]
  rfl
theorem dp_parts {K : PySem.W.Frag} {H : Hp} : ∀ r : Rc, DpAll K H (r.map Pt.v) (r.map Pt.d)
  | [] => .nil
  | .s z :: r => .cons (.str z) (dp_parts r)
  | .b i :: r => .cons (.int i) (dp_parts r)
theorem parts_flat : ∀ r : Rc, lowR r → PyData.canLayAll0 (r.map Pt.d) = true ∧ PyData.depthAll (r.map Pt.d) = 0
  | [], _ => ⟨by simp only [List.map_nil, PyData.canLayAll0], by simp only [List.map_nil, PyData.depthAll]⟩
  | .s z :: r, h => by
    obtain ⟨h1, h2⟩ := parts_flat r fun q hq => h q (List.mem_cons_of_mem _ hq)
    have h3 : PyData.strOk z = true := low_strOk (h (.s z) List.mem_cons_self)
    exact ⟨by simp only [List.map_cons, Pt.d, PyData.canLayAll0, PyData.canLay0, h1, h3, Bool.and_self], by simp only [List.map_cons, Pt.d, PyData.depthAll, PyData.depth, h2, Nat.max_self]⟩
  | .b i :: r, h => by
    obtain ⟨h1, h2⟩ := parts_flat r fun q hq => h q (List.mem_cons_of_mem _ hq)
    exact ⟨by simp only [List.map_cons, Pt.d, PyData.canLayAll0, PyData.canLay0, h1, Bool.and_self], by simp only [List.map_cons, Pt.d, PyData.depthAll, PyData.depth, h2, Nat.max_self]⟩
theorem shaped_parts (r : Rc) (h : lowR r) : SeqAt.shaped (.list (r.map Pt.d)) = true := by
  obtain ⟨h1, h2⟩ := parts_flat r h
  unfold SeqAt.shaped
  simp only [PyData.canLay0, PyData.depth, h1, h2, Bool.true_and]
  decide
theorem list_ne_nil (ds : List PyData) : (!PyData.eqv (.list ds) (.list [])) = !ds.isEmpty := by
  cases ds with
  | nil => simp only [PyData.eqv, PyData.eqvAll, List.isEmpty_nil]
  | cons a r => simp only [PyData.eqv, PyData.eqvAll, List.isEmpty_cons]

/-- more built-in names -/
structure BN2 (mg : Str → Option Value) : Prop extends BN mg where
  tuple : mg "tuple" = none
  isi : mg "isinstance" = none
  str : mg "str" = none

def spNormal (K : PySem.W.Frag) : Sp := fun vs H Q _ => ∃ (a : Addr) (ps : Rc), vs = [.ref a] ∧ SqL K H a (ps.map Pt.v) ∧ ps.length ≤ 1000 ∧ lets ps ≤ 100000 ∧ lowR ps ∧
  ∀ t H', Same H H' → H t = none → H' t = some (.tup ((normal ps).map Pt.v)) → Q (.ref t) H'
/-- isinstance(part, str) -/
theorem isi_pt {K : PySem.W.Frag} {H : Hp} (q : Pt) : ∃ (t : Value) (b : Bool), TyX K H q.v t ∧ PySem.W.kitOne K t (.type "str") = some b ∧ (b = true → ∃ z, q = .s z) ∧ (b = false → ∃ i, q = .b i) := by
  cases q with
  | s z => exact ⟨_, true, .base (.str z), kit_ty (by decide +kernel), fun _ => ⟨z, rfl⟩, fun h => (by cases h)⟩
  | b i => exact ⟨_, false, .base (.int i), kit_ty (by decide +kernel), fun h => (by cases h), fun _ => ⟨i, rfl⟩⟩

/-! ### parts put together -/
theorem sc_normal : FnScope ["parts", "found", "part"] ["parts"] (fnScope st_law_normal) := fnScope_by (by decide +kernel)
section
variable {P : Program} {w : World} {K : PySem.W.Frag} {mg : Str → Option Value} {base : Heap} {f : Addr} {fd : FuncData}
theorem cal_normal (F : C8.Def K mg "_law_normal" st_law_normal f fd) (b : Binds K fd ["parts"] []) (B : BN2 mg) : Cal P w K mg base 1 "_law_normal" (spNormal K) [] := by
  refine cal0 F b .nil sc_normal (fun vs H Q E h => ?_) (fun cdv A outer s H vs Q E hr h => ?_)
  · obtain ⟨a, ps, rfl, _⟩ := h
    rfl
  · obtain ⟨a, ps, rfl, hS, hlen, hlets, hlow, k⟩ := h
    refine ⟨_, pss_cons (ps_set (i := 1) sc_normal.nd rfl (Or.inl rfl) (pe_lst pa_nil))
      (pss_cons (ps_for PassesOwn.never rfl (pi_list (pv 0)) (pg_name (i := 2) sc_normal.nd rfl (Or.inl rfl))
        (pss_one (ps_if (PW.pt (pw_and (pt_val (pe_callB call_isi (by rfl) B.isi (by decide +kernel) (pa_cons (pv 2) (pa_cons (pe_bltn (v := .ty "str") (by rfl) B.str (by decide +kernel) rfl) pa_nil))))
            (pw_and (pt_cmpR (op_neD hr.units) (pv 1) (pe_lst pa_nil) (nomark _)) (pw_and1 (pt_val (pe_callB call_isi (by rfl) B.isi (by decide +kernel) (pa_cons (pe_ix ix_list (pv 1) (pe_un un_neg pe_int) (fun _ _ => rfl)) (pa_cons (pe_bltn (v := .ty "str") (by rfl) B.str (by decide +kernel) rfl) pa_nil))))))))
          (pss_one (ps_asg (pe_op op_add_str (pe_ix ix_list (pv 1) (pe_un un_neg pe_int) (fun _ _ => rfl)) (pv 2)) (pg_sub (pv 1) (pe_un un_neg pe_int) set_list)))
          (pss_one (ps_if (pt_cmpR op_ne (pv 2) pe_str (nomark _)) (pss_one (ps_expr (pe_bm PySem.F.plainAttrs_list PySem.F.slot_list_append PySem.F.type_list_append mt_append (pv 1) (pa_cons (pv 2) pa_nil)))) pss_nil)))))
      (pss_one (ps_ret (pe_callTy call_tuple_of (by rfl) B.tuple (by decide +kernel) (pa_cons (pv 1) pa_nil))))), ?_⟩
    refine ⟨Nat.zero_le _, fun q hq => ?_⟩
    have inv : ∀ i, bufs ((ps.take i).foldl nstep []) = bufs (ps.take i) ∧ lets ((ps.take i).foldl nstep []) ≤ 100000 ∧ ((ps.take i).foldl nstep []).length ≤ 1000 ∧ lowR ((ps.take i).foldl nstep []) := fun i => by
      obtain ⟨h1, h2, h3, h4⟩ := normal_ok (ps.take i) []
      have e : lets ps = lets (ps.take i) + lets (ps.drop i) := by rw [← lets_app, List.take_append_drop]
      refine ⟨h1, ?_, ?_, h4 (fun q hq => by cases hq) fun q hq => hlow q (List.mem_of_mem_take hq)⟩
      · rw [h2]
        show 0 + lets (ps.take i) ≤ 100000
        omega
      · have := List.length_take_le i ps
        simp only [List.length_nil] at h3
        have h5 : (ps.take i).length ≤ ps.length := by rw [List.length_take]; omega
        omega
    refine ⟨_, rfl, a, rfl, ⟨_, (show SqL K (upd H q (.lst [])) a (ps.map Pt.v) from Same.seq (fun b o e => by rw [upd_ne (ne_of_none e hq)]; exact e) hS)⟩, for_list (K := K) (a := a) (xs := ps.map Pt.v)
      (fun i σ H' => (∃ v : Option V, σ = [some (.ref a), some (.ref q), v]) ∧ Same H H' ∧ H' q = some (.lst (((ps.take i).foldl nstep []).map Pt.v)))
      ⟨⟨none, rfl⟩, fun b o e => by rw [upd_ne (ne_of_none e hq)]; exact e, upd_same⟩ (fun i σ H' _ h => h.2.1.seq hS) ?_ ?_⟩
    · rintro i x σ H1 hi ⟨⟨v, rfl⟩, s1, hL⟩
      obtain ⟨y, hy, rfl⟩ : ∃ y, ps[i]? = some y ∧ x = Pt.v y := by
        rw [List.getElem?_map] at hi
        cases e : ps[i]? with
        | none =>
          rw [e] at hi
          cases hi
        | some y =>
          rw [e] at hi
          exact ⟨y, rfl, (Option.some.inj hi).symm⟩
      have step := foldl_more nstep [] hy
      obtain ⟨_, v2, v3, v4⟩ := inv i
      have ylow : y.low := hlow y (List.mem_of_getElem? hy)
      generalize hf : (ps.take i).foldl nstep [] = g at *
      rw [step]
      have push : ∀ (H2 : Hp), Same H H2 → H2 q = some (.lst (g.map Pt.v)) → nstep g y = g ++ [y] → (Same H (upd H2 q (.lst (g.map Pt.v ++ [y.v])))) ∧ upd H2 q (.lst (g.map Pt.v ++ [y.v])) q = some (.lst ((nstep g y).map Pt.v)) := fun H2 s2 _ e => by
        refine ⟨fun b o hb => by rw [upd_ne (ne_of_none hb hq)]; exact s2 b o hb, ?_⟩
        rw [upd_same, e, List.map_append]
        rfl
      obtain ⟨ty, tb, t1, t2, t3, t4⟩ := isi_pt (K := K) (H := H1) y
      refine ⟨_, rfl, y.v, _, ty, _, tb, rfl, .ty _, t1, t2, _, rfl, ?_⟩
      cases tb with
      | false =>
        obtain ⟨j, rfl⟩ := t4 rfl
        refine iteF (iteF ?_)
        refine ⟨_, rfl, rfl, _, rfl, ?_⟩
        have ne : (V.int (j : Nat) ≠ V.str "") := fun e => by cases e
        refine iteT' (by show (!decide (V.int (j : Nat) = V.str "")) = true; rw [decide_eq_false ne]; rfl) ?_
        refine ⟨_, rfl, .inl ⟨rfl, _, SqL.of hL⟩, _, rfl, q, _, _, rfl, rfl, hL, ?_, ?_⟩
        · rw [List.length_map]
          exact Nat.lt_of_le_of_lt v3 (by decide)
        · obtain ⟨a1, a2⟩ := push H1 s1 hL rfl
          exact ⟨⟨_, rfl⟩, a1, a2⟩
      | true =>
        obtain ⟨z, rfl⟩ := t3 rfl
        refine iteT ?_
        refine ⟨_, rfl, Nat.zero_le _, fun e he => ?_⟩
        have hL2 : upd H1 e (.lst []) q = some (.lst (g.map Pt.v)) := by
          rw [upd_ne (ne_of_none hL he)]
          exact hL
        have s2 : Same H (upd H1 e (.lst [])) := fun b o hb => by
          rw [upd_ne (ne_of_none (s1 b o hb) he)]
          exact s1 b o hb
        refine ⟨.list (g.map Pt.d), .list [], .lst (SqL.of hL2) (dp_parts g), .lst (SqL.of upd_same) .nil, shaped_parts g v4, by decide, _, rfl, ?_⟩
        rw [list_ne_nil]
        -- the elif: a piece behind no piece
        have elif : nstep g (.s z) = (if z = "" then g else g ++ [.s z]) → (tIfS (tTest (tOp rNe (tVar 2) (tC (.str "")))) (tDrop (tBM K "list" rAppend (tVar 1) (tCons (tVar 2) tNil))) tNext)
            { nx := fun σ H' => (∃ v : Option V, σ = [some (.ref a), some (.ref q), v]) ∧ Same H H' ∧ H' q = some (.lst ((nstep g (.s z)).map Pt.v)), rt := Q, ct := fun σ H' => (∃ v : Option V, σ = [some (.ref a), some (.ref q), v]) ∧ Same H H' ∧ H' q = some (.lst ((nstep g (.s z)).map Pt.v)), bk := fun _ _ => True }
            [some (.ref a), some (.ref q), some (.str z)] (upd H1 e (.lst [])) := fun en => by
          refine ⟨_, rfl, rfl, _, rfl, ?_⟩
          by_cases hz : z = ""
          · subst hz
            refine iteF' (by show (!decide (V.str "" = V.str "")) = false; rw [decide_eq_true rfl]; rfl) ?_
            refine ⟨⟨_, rfl⟩, s2, ?_⟩
            rw [hL2, en, if_pos rfl]
          · have ne : (V.str z ≠ V.str "") := fun e => hz (by injection e)
            refine iteT' (by show (!decide (V.str z = V.str "")) = true; rw [decide_eq_false ne]; rfl) ?_
            refine ⟨_, rfl, .inl ⟨rfl, _, SqL.of hL2⟩, _, rfl, q, _, _, rfl, rfl, hL2, ?_, ?_⟩
            · rw [List.length_map]
              exact Nat.lt_of_le_of_lt v3 (by decide)
            · rw [if_neg hz] at en
              obtain ⟨a1, a2⟩ := push _ s2 hL2 en
              exact ⟨⟨_, rfl⟩, a1, a2⟩
        rcases List.eq_nil_or_concat g with rfl | ⟨g', l, rfl⟩
        · refine iteF (iteF ?_)
          exact elif (nstep_first z)
        · rw [List.concat_eq_append] at *
          have en : (List.map Pt.d (g' ++ [l])).isEmpty = false := by
            rw [List.map_append]
            cases List.map Pt.d g' <;> rfl
          rw [en]
          refine iteT ?_
          have hL3 : upd H1 e (.lst []) q = some (.lst (g'.map Pt.v ++ [l.v])) := by
            rw [hL2, List.map_append]
            rfl
          obtain ⟨ty2, tb2, u1, u2, u3, u4⟩ := isi_pt (K := K) (H := upd H1 e (.lst [])) l
          refine ⟨_, rfl, _, rfl, q, _, _, l.v, rfl, rfl, SqL.of hL3, atI_last _ _, l.v, _, ty2, _, tb2, rfl, .ty _, u1, u2, _, rfl, ?_⟩
          cases tb2 with
          | false =>
            obtain ⟨j, rfl⟩ := u4 rfl
            refine iteF ?_
            exact elif (nstep_behind g' j z)
          | true =>
            obtain ⟨y', rfl⟩ := u3 rfl
            refine iteT ?_
            have hsz : y'.length + z.length ≤ sizeLine := by
              have e1 : lets (g' ++ [.s y']) = lets g' + y'.length := by rw [lets_app, lets_one]; rfl
              have e2 := (inv (i + 1)).2.1
              rw [step, nstep_glue, lets_app, lets_one] at e2
              have e3 : (Pt.s (y' ++ z)).let = y'.length + z.length := len_cat y' z
              exact Nat.le_trans (show y'.length + z.length ≤ 100000 by omega) (by decide)
            refine ⟨_, rfl, _, rfl, q, _, _, .str y', rfl, rfl, SqL.of hL3, atI_last _ _, _, rfl, y', z, rfl, rfl, hsz, _, rfl, _, rfl, q, _, _, g'.length, rfl, rfl, hL3, ?_, ?_⟩
            · rw [List.length_append, List.length_map, List.length_singleton]
              unfold ixN
              rw [if_neg (by omega), if_pos (by omega)]
              exact congrArg some (by omega)
            · refine ⟨⟨_, rfl⟩, fun b o hb => by rw [upd_ne (ne_of_none hb hq)]; exact s2 b o hb, ?_⟩
              rw [upd_same, nstep_glue, List.map_append]
              refine congrArg some (congrArg HO.lst ?_)
              rw [List.set_append_right _ _ (by rw [List.length_map]; exact Nat.le_refl _), List.length_map, Nat.sub_self]
              rfl
    · rintro σ H1 ⟨⟨v, rfl⟩, s1, hL⟩
      rw [List.length_map, List.take_length] at hL
      refine ⟨_, rfl, q, _, rfl, .inl ⟨SqL.of hL, fun t ht => ?_⟩⟩
      refine k t _ (fun b o e => by rw [upd_ne (ne_of_none (s1 b o e) ht)]; exact s1 b o e) (s1.free ht) upd_same
end

/-! ### tuples over tuples, as data -/
mutual
inductive Tp (H : Hp) : V → PyData → Prop
  | non : Tp H .non .none
  | bl (b : Bool) : Tp H (.bl b) (.bool b)
  | int (i : Int) : Tp H (.int i) (.int i)
  | str (x : Str) : Tp H (.str x) (.str x)
  | tup {a : Addr} {xs : List V} {ds : List PyData} : H a = some (.tup xs) → TpAll H xs ds → Tp H (.ref a) (.tuple ds)
inductive TpAll (H : Hp) : List V → List PyData → Prop
  | nil : TpAll H [] []
  | cons {v : V} {vs : List V} {d : PyData} {ds : List PyData} : Tp H v d → TpAll H vs ds → TpAll H (v :: vs) (d :: ds)
end
/-- all tuples stand -/
def TK (H H' : Hp) : Prop := ∀ b xs, H b = some (.tup xs) → H' b = some (.tup xs)
theorem TK.trans {H H1 H2 : Hp} (a : TK H H1) (b : TK H1 H2) : TK H H2 := fun x o e => b x o (a x o e)
mutual
theorem Tp.mono {H H' : Hp} (k : TK H H') : ∀ {v : V} {d : PyData}, Tp H v d → Tp H' v d
  | _, _, .non => .non
  | _, _, .bl b => .bl b
  | _, _, .int i => .int i
  | _, _, .str x => .str x
  | _, _, .tup h hs => .tup (k _ _ h) (TpAll.mono k hs)
theorem TpAll.mono {H H' : Hp} (k : TK H H') : ∀ {v : List V} {d : List PyData}, TpAll H v d → TpAll H' v d
  | _, _, .nil => .nil
  | _, _, .cons h hs => .cons (Tp.mono k h) (TpAll.mono k hs)
end
mutual
theorem Tp.dp {K : PySem.W.Frag} {H : Hp} : ∀ {v : V} {d : PyData}, Tp H v d → Dp K H v d
  | _, _, .non => .non
  | _, _, .bl b => .bl b
  | _, _, .int i => .int i
  | _, _, .str x => .str x
  | _, _, .tup h hs => .tup (SqT.of h) (TpAll.dp hs)
theorem TpAll.dp {K : PySem.W.Frag} {H : Hp} : ∀ {v : List V} {d : List PyData}, TpAll H v d → DpAll K H v d
  | _, _, .nil => .nil
  | _, _, .cons h hs => .cons (Tp.dp h) (TpAll.dp hs)
end
theorem tp_parts {H : Hp} : ∀ r : Rc, TpAll H (r.map Pt.v) (r.map Pt.d)
  | [] => .nil
  | .s z :: r => .cons (.str z) (tp_parts r)
  | .b i :: r => .cons (.int i) (tp_parts r)
theorem TpAll.map {H : Hp} {α : Type} {g : α → V} {e : α → PyData} : ∀ {l : List α}, (∀ x ∈ l, Tp H (g x) (e x)) → TpAll H (l.map g) (l.map e)
  | [], _ => .nil
  | x :: r, h => .cons (h x List.mem_cons_self) (TpAll.map fun y hy => h y (List.mem_cons_of_mem _ hy))
theorem TpAll.app {H : Hp} {a b : List V} {d e : List PyData} (h : TpAll H a d) (h2 : TpAll H b e) : TpAll H (a ++ b) (d ++ e) := by
  induction a generalizing d with
  | nil =>
    cases h
    exact h2
  | cons v r ih =>
    cases h with
    | cons h1 hr => exact .cons h1 (ih hr)
theorem TpAll.get {H : Hp} : ∀ {vs : List V} {ds : List PyData} {i : Nat} {d : PyData}, TpAll H vs ds → ds[i]? = some d → ∃ v, vs[i]? = some v ∧ Tp H v d
  | _, _, _, _, .nil, h => by simp at h
  | _, _, 0, _, .cons h _, e => by
    simp at e
    subst e
    exact ⟨_, rfl, h⟩
  | _, _, i + 1, _, .cons _ hs, e => by
    have e' : _ := e
    rw [List.getElem?_cons_succ] at e'
    obtain ⟨v, h1, h2⟩ := TpAll.get hs e'
    exact ⟨v, by rw [List.getElem?_cons_succ]; exact h1, h2⟩
theorem TpAll.len {H : Hp} : ∀ {vs : List V} {ds : List PyData}, TpAll H vs ds → vs.length = ds.length
  | _, _, .nil => rfl
  | _, _, .cons _ hs => by rw [List.length_cons, List.length_cons, TpAll.len hs]
theorem Same.tk {H H' : Hp} (s : Same H H') : TK H H' := fun b xs e => s b _ e
theorem Kp.tk {p c : Addr} {H H' : Hp} (k : Kp p c H H') (hP : Pen H p c) : TK H H' := fun b xs e => by
  obtain ⟨ns, i, j, h1, _⟩ := hP
  exact k.but b _ (ne_of e h1 (by intro z; cases z)) e
theorem tk_new {H : Hp} {q : Addr} {o : HO} (hq : H q = none) : TK H (upd H q o) := fun b xs e => by
  rw [upd_ne (ne_of_none e hq)]
  exact e
theorem tk_lst {H : Hp} {q : Addr} {ys : List V} {o : HO} (hq : H q = some (.lst ys)) : TK H (upd H q o) := fun b xs e => by
  rw [upd_ne (ne_of e hq (by intro z; cases z))]
  exact e
theorem same_new {H : Hp} {q : Addr} {o : HO} (hq : H q = none) : Same H (upd H q o) := fun b u e => by
  rw [upd_ne (ne_of_none e hq)]
  exact e
theorem Pen.same {H H' : Hp} {p c : Addr} (h : Pen H p c) (s : Same H H') : Pen H' p c := by
  obtain ⟨ns, i, j, h1, h2⟩ := h
  exact ⟨ns, i, j, s _ _ h1, s _ _ h2⟩
theorem Kp.same {H H1 H2 : Hp} {p c : Addr} (k : Kp p c H H1) (s : Same H1 H2) : Kp p c H H2 := ⟨fun b o n e => s b o (k.but b o n e), k.pen.same s⟩

/-! ### a heap without one list -/
def hide (H : Hp) (l : Addr) : Hp := fun b => if b = l then none else H b
theorem hide_ne {H : Hp} {l b : Addr} (h : b ≠ l) : hide H l b = H b := if_neg h
theorem hide_self {H : Hp} {l : Addr} : hide H l l = none := if_pos rfl
theorem Pen.hide {H : Hp} {p c l : Addr} (h : Pen H p c) (n1 : l ≠ p) (n2 : l ≠ c) : Pen (hide H l) p c := by
  obtain ⟨ns, i, j, h1, h2⟩ := h
  exact ⟨ns, i, j, by rw [hide_ne n1.symm]; exact h1, by rw [hide_ne n2.symm]; exact h2⟩
theorem Kp.hide0 {H : Hp} {p c l : Addr} (h : Pen H p c) : Kp p c (hide H l) H := by
  refine ⟨fun b o n e => ?_, h⟩
  by_cases hb : b = l
  · rw [hb, hide_self] at e
    cases e
  · rw [hide_ne hb] at e
    exact e
theorem Kp.thru {H H1 H2 : Hp} {p c l : Addr} (k1 : Kp p c H H1) (k2 : Kp p c (hide H1 l) H2) (hl : H l = none) : Kp p c H H2 :=
  ⟨fun b o n e => k2.but b o n (by rw [hide_ne (ne_of_none e hl)]; exact k1.but b o n e), k2.pen⟩
theorem Kp.unhide {H H' : Hp} {p c l b : Addr} {o : HO} (k : Kp p c (hide H l) H') (n : b ≠ p) (nl : b ≠ l) (h : H b = some o) : H' b = some o := k.but b o n (by rw [hide_ne nl]; exact h)
theorem Kp.freeH {H H' : Hp} {p c l t : Addr} {o : HO} (k : Kp p c (hide H l) H') (hl : H' l = some o) (ht : H' t = none) : H t = none := by
  have h := k.free ht
  rw [hide_ne (ne_of_none hl ht).symm] at h
  exact h

/-! ### lists of small numbers -/
def iN (ls : List Nat) : List Int := ls.map fun (i : Nat) => (i : Int)
theorem rg_eq (n : Nat) : rgV 0 (n : Int) = (iN (List.range n)).map V.int := by
  unfold rgV iN
  rw [List.map_map]
  have e : ((n : Int) - 0).toNat = n := by omega
  rw [e]
  refine List.map_congr_left fun i _ => ?_
  show V.int (0 + (i : Int)) = V.int (i : Int)
  rw [Int.zero_add]
theorem flat_ints (ns : List Int) : (ns.map V.int).all flatV = true := by
  rw [List.all_eq_true]
  intro x hx
  obtain ⟨z, _, rfl⟩ := List.mem_map.mp hx
  rfl
theorem first_hit {xs : List V} {t : V → Bool} (h : xs.any t = true) : ∃ (j : Nat) (z : V), xs[j]? = some z ∧ t z = true ∧ ∀ (m : Nat) (z' : V), m < j → xs[m]? = some z' → t z' = false := by
  induction xs with
  | nil => cases h
  | cons x r ih =>
    cases hx : t x with
    | true => exact ⟨0, x, rfl, hx, fun m _ hm => absurd hm (Nat.not_lt_zero m)⟩
    | false =>
      rw [List.any_cons, hx, Bool.false_or] at h
      obtain ⟨j, z, h1, h2, h3⟩ := ih h
      refine ⟨j + 1, z, by rw [List.getElem?_cons_succ]; exact h1, h2, fun m z' hm e => ?_⟩
      cases m with
      | zero =>
        obtain rfl : x = z' := Option.some.inj e
        exact hx
      | succ m =>
        rw [List.getElem?_cons_succ] at e
        exact h3 m z' (Nat.lt_of_succ_lt_succ hm) e
theorem erase_map {α β : Type} (g : α → β) : ∀ (l : List α) (k : Nat), (l.map g).eraseIdx k = (l.eraseIdx k).map g
  | [], _ => rfl
  | _ :: _, 0 => rfl
  | x :: r, k + 1 => by
    rw [List.map_cons, List.eraseIdx_cons_succ, List.eraseIdx_cons_succ, List.map_cons, erase_map g r k]

theorem erase_perm {α : Type} : ∀ (l : List α) (k : Nat) (h : k < l.length), (l[k] :: l.eraseIdx k).Perm l
  | x :: r, 0, _ => List.Perm.refl _
  | x :: r, k + 1, h => by
    rw [List.eraseIdx_cons_succ, List.getElem_cons_succ]
    exact (List.Perm.swap x _ _).trans ((erase_perm r k (Nat.lt_of_succ_lt_succ h)).cons x)


/-! ### a drawn recipe -/
def spFill : Sp := fun vs H Q _ => ∃ (p c l : Addr) (ls : List Nat) (own : Int), vs = [.ref p, .ref l, .int own] ∧ Pen H p c ∧ l ≠ p ∧ l ≠ c ∧ H l = some (.lst ((iN ls).map V.int)) ∧ ls.length ≤ 100 ∧
  ∀ (r : Rc) (t : Addr) (ls' : List Nat) H', Kp p c (hide H l) H' → H t = none → H' t = some (.tup (r.map Pt.v)) → H' l = some (.lst ((iN ls').map V.int)) → (bufs r ++ ls').Perm ls → lets r ≤ 10 → lowR r → r.length ≤ 5 → Q (.ref t) H'
theorem sc_fill : FnScope ["pen", "left", "own", "parts", "lap", "at"] ["pen", "left", "own"] (fnScope st_law_fill) := fnScope_by (by decide +kernel)
/-- between two turns: the parts so far at q, what is left at l -/
structure FI (H : Hp) (p c l q : Addr) (ls : List Nat) (n : Nat) (ps : Rc) (ls' : List Nat) (H' : Hp) : Prop where
  kp : Kp p c (hide H l) H'
  hq : H' q = some (.lst (ps.map Pt.v))
  hl : H' l = some (.lst ((iN ls').map V.int))
  perm : (bufs ps ++ ls').Perm ls
  lt : lets ps ≤ 2 * n
  len : ps.length ≤ n
  low : lowR ps
theorem FI.more {H : Hp} {p c l q : Addr} {ls : List Nat} {n m : Nat} {ps : Rc} {ls' : List Nat} {H' : Hp} (h : FI H p c l q ls n ps ls' H') (hm : n ≤ m) : FI H p c l q ls m ps ls' H' :=
  ⟨h.kp, h.hq, h.hl, h.perm, Nat.le_trans h.lt (Nat.mul_le_mul_left 2 hm), Nat.le_trans h.len hm, h.low⟩
theorem FI.drawn {H : Hp} {p c l q : Addr} {ls : List Nat} {n : Nat} {ps : Rc} {ls' : List Nat} {H1 H2 : Hp} (h : FI H p c l q ls n ps ls' H1) (np : q ≠ p) (nl : l ≠ p) (k : Kp p c H1 H2) : FI H p c l q ls n ps ls' H2 :=
  ⟨h.kp.trans k, k.but _ _ np h.hq, k.but _ _ nl h.hl, h.perm, h.lt, h.len, h.low⟩
theorem FI.new {H : Hp} {p c l q e : Addr} {o : HO} {ls : List Nat} {n : Nat} {ps : Rc} {ls' : List Nat} {H1 : Hp} (h : FI H p c l q ls n ps ls' H1) (he : H1 e = none) : FI H p c l q ls n ps ls' (upd H1 e o) :=
  ⟨h.kp.new he, by rw [upd_ne (ne_of_none h.hq he)]; exact h.hq, by rw [upd_ne (ne_of_none h.hl he)]; exact h.hl, h.perm, h.lt, h.len, h.low⟩
/-- a piece put behind -/
theorem FI.piece {H : Hp} {p c l q : Addr} {ls : List Nat} {n : Nat} {ps : Rc} {ls' : List Nat} {H1 : Hp} {z : Str} (hP : Pen (hide H l) p c) (hq : H q = none) (nq : q ≠ l) (h : FI H p c l q ls n ps ls' H1) (hz : Tx 2 z) :
    FI H p c l q ls (n + 1) (ps ++ [.s z]) ls' (upd H1 q (.lst (ps.map Pt.v ++ [.str z]))) := by
  have hq0 : hide H l q = none := by rw [hide_ne nq]; exact hq
  refine ⟨h.kp.put hP hq0, ?_, ?_, ?_, ?_, ?_, ?_⟩
  · rw [upd_same, List.map_append]
    rfl
  · rw [upd_ne nq.symm]
    exact h.hl
  · rw [bufs_app, bufs_one]
    show (bufs ps ++ [] ++ ls').Perm ls
    rw [List.append_nil]
    exact h.perm
  · rw [lets_app, lets_one]
    have a := h.lt
    have b : (Pt.s z).let ≤ 2 := hz.len
    omega
  · rw [List.length_append, List.length_singleton]
    have := h.len
    omega
  · exact lowR_app h.low (lowR_one hz.low)
/-- a buffer taken out of what is left, put behind -/
theorem FI.take {H : Hp} {p c l q : Addr} {ls : List Nat} {n : Nat} {ps : Rc} {ls' : List Nat} {H1 : Hp} {k : Nat} (hP : Pen (hide H l) p c) (hq : H q = none) (nq : q ≠ l) (h : FI H p c l q ls n ps ls' H1) (hk : k < ls'.length) :
    FI H p c l q ls (n + 1) (ps ++ [.b ls'[k]]) (ls'.eraseIdx k) (upd (upd H1 l (.lst (((iN ls').map V.int).eraseIdx k))) q (.lst (ps.map Pt.v ++ [.int ls'[k]]))) := by
  have hq0 : hide H l q = none := by rw [hide_ne nq]; exact hq
  refine ⟨(h.kp.put hP hide_self).put hP hq0, ?_, ?_, ?_, ?_, ?_, ?_⟩
  · rw [upd_same, List.map_append]
    rfl
  · rw [upd_ne nq.symm, upd_same]
    unfold iN
    rw [erase_map, erase_map]
  · rw [bufs_app, bufs_one]
    show (bufs ps ++ [ls'[k]] ++ ls'.eraseIdx k).Perm ls
    rw [List.append_assoc]
    exact ((erase_perm ls' k hk).append_left _).trans h.perm
  · rw [lets_app, lets_one]
    have a := h.lt
    show lets ps + 0 ≤ 2 * (n + 1)
    omega
  · rw [List.length_append, List.length_singleton]
    have := h.len
    omega
  · exact lowR_app h.low (lowR_one True.intro)
theorem menu012 : ∀ z ∈ ([0, 1, 1, 1, 1, 2] : List Int), 0 ≤ z ∧ z ≤ 2 := by decide
section
variable {P : Program} {w : World} {K : PySem.W.Frag} {mg : Str → Option Value} {base : Heap} {f : Addr} {fd : FuncData}
theorem cal_fill (F : C8.Def K mg "_law_fill" st_law_fill f fd) (b : Binds K fd ["pen", "left", "own"] []) (B : BN2 mg) (Cd : Cal P w K mg base 2 "_law_draw" spDraw []) (Co : Cal P w K mg base 3 "_law_one_of" (spOne K) [])
    (Cp : Cal P w K mg base 4 "_law_piece" spPiece []) (Cn : Cal P w K mg base 1 "_law_normal" (spNormal K) []) : Cal P w K mg base 5 "_law_fill" spFill [] := by
  refine cal0 F b .nil sc_fill (fun vs H Q E h => ?_) (fun cdv A outer s H vs Q E hr h => ?_)
  · obtain ⟨p, c, l, ls, own, rfl, _⟩ := h
    rfl
  · obtain ⟨p, c, l, ls, own, rfl, hP, nlp, nlc, hl, hln, k⟩ := h
    refine ⟨_, pss_cons (ps_set (i := 3) sc_fill.nd rfl (Or.inl rfl) (pe_lst pa_nil))
      (pss_cons (ps_for PassesOwn.never rfl (pi_range1 rfl B.range (pa_cons (pe_c Co hr (by decide) (by rfl) (pa_cons (pv 0) (pa_cons (pe_lst (pa_cons pe_int (pa_cons pe_int (pa_cons pe_int (pa_cons pe_int (pa_cons pe_int (pa_cons pe_int pa_nil))))))) pa_nil))) pa_nil)) (pg_name (i := 4) sc_fill.nd rfl (Or.inl rfl))
        (pss_cut (ps_if (pt_cmpR op_eq (pe_c Cd hr (by decide) (by rfl) (pa_cons (pv 0) (pa_cons pe_int pa_nil))) pe_int (nomark _))
            (pss_one (ps_expr (pe_bm PySem.F.plainAttrs_list PySem.F.slot_list_append PySem.F.type_list_append mt_append (pv 3) (pa_cons (pe_c Cp hr (by decide) (by rfl) (pa_cons (pv 0) (pa_cons pe_int pa_nil))) pa_nil)))) pss_nil)
          (pss_one (ps_if (pt_cmpR (op_neD hr.units) (pv 1) (pe_lst pa_nil) (nomark _))
            (pss_cut (ps_set (i := 5) sc_fill.nd rfl (Or.inl rfl) (pe_ifExp (PW.pt (pw_and (pt_cmpR op_in_seq (pv 2) (pv 1) (by with_unfolding_all rfl)) (pw_and1 (pt_cmpR op_gt (pe_c Cd hr (by decide) (by rfl) (pa_cons (pv 0) (pa_cons pe_int pa_nil))) pe_int (nomark _)))))
                (pe_bm PySem.F.plainAttrs_list PySem.F.slot_list_index PySem.F.type_list_index mt_index (pv 1) (pa_cons (pv 2) pa_nil))
                (pe_c Cd hr (by decide) (by rfl) (pa_cons (pv 0) (pa_cons (pe_callB call_len_seq (by rfl) B.len PySem.boot_len (pa_cons (pv 1) pa_nil)) pa_nil)))))
              (pss_one (ps_expr (pe_bm PySem.F.plainAttrs_list PySem.F.slot_list_append PySem.F.type_list_append mt_append (pv 3) (pa_cons (pe_bm PySem.F.plainAttrs_list PySem.F.slot_list_pop PySem.F.type_list_pop mt_popAt (pv 1) (pa_cons (pv 5) pa_nil)) pa_nil))))) pss_nil))))
      (pss_cut (ps_if (pt_cmpR op_eq (pe_c Cd hr (by decide) (by rfl) (pa_cons (pv 0) (pa_cons pe_int pa_nil))) pe_int (nomark _))
            (pss_one (ps_expr (pe_bm PySem.F.plainAttrs_list PySem.F.slot_list_append PySem.F.type_list_append mt_append (pv 3) (pa_cons (pe_c Cp hr (by decide) (by rfl) (pa_cons (pv 0) (pa_cons pe_int pa_nil))) pa_nil)))) pss_nil)
      (pss_one (ps_ret (pe_c Cn hr (by decide) (by rfl) (pa_cons (pv 3) pa_nil)))))), ?_⟩
    have hPh := hP.hide nlp nlc
    refine ⟨Nat.zero_le _, fun q hq => ?_⟩
    have nqp : q ≠ p := hP.ne hq
    have nql : q ≠ l := (ne_of_none hl hq).symm
    have I0 : FI H p c l q ls 0 [] ls (upd H q (.lst [])) := ⟨(Kp.hide0 hP).new hq, upd_same, by rw [upd_ne nql.symm]; exact hl, List.Perm.refl _, Nat.le_refl _, Nat.le_refl _, fun x hx => by cases hx⟩
    -- a piece, perhaps, in both places
    have perhaps : ∀ (n : Nat) (ps : Rc) (ls' : List Nat) (H1 : Hp) (G : Hp → Prop), n ≤ 100 → FI H p c l q ls n ps ls' H1 → (∀ ps' H2, FI H p c l q ls (n + 1) ps' ls' H2 → G H2) →
        ∀ (d : Int) (H2 : Hp), Kp p c H1 H2 → (if decide (V.int d = V.int 0) = true then
          (spPiece [.ref p, .int 2] H2 (fun x H3 => rAppend (.ref q) [x] H3 fun _ H4 => G H4) E0) else G H2) := by
      intro n ps ls' H1 G hn h kG d H2 kk
      have h2 := h.drawn nqp nlp kk
      refine ite2 (fun _ => ?_) (fun _ => ?_)
      · refine ⟨p, c, 2, rfl, h2.kp.pen, by decide, by decide, fun z H3 z0 hz k3 => ?_⟩
        have h3 := h2.drawn nqp nlp k3
        refine ⟨q, _, _, rfl, rfl, h3.hq, ?_, kG _ _ (h3.piece hPh hq nql hz)⟩
        rw [List.length_map]
        exact Nat.lt_of_le_of_lt (Nat.le_trans h.len hn) (by decide)
      · exact kG ps H2 (h2.more (Nat.le_succ _))
    refine ⟨_, rfl, (by show 6 ≤ sizeLine; decide), fun a ha => ⟨p, c, I0.kp.pen.new ha, .inl ⟨a, _, rfl, I0.kp.pen.ne ha, SqL.of upd_same, by decide, by decide, fun x H1 hx k1 => ?_⟩⟩⟩
    obtain ⟨m, hm, rfl⟩ : ∃ m : Nat, m ≤ 2 ∧ x = V.int m := by
      have hx' : x ∈ ([0, 1, 1, 1, 1, 2] : List Int).map V.int := hx
      obtain ⟨z, h1, h2⟩ := List.mem_map.mp hx'
      obtain ⟨h3, h4⟩ := menu012 z h1
      exact ⟨z.toNat, by omega, by rw [← h2, Int.toNat_of_nonneg h3]⟩
    have I1 := (I0.new (o := .lst ([0, 1, 1, 1, 1, 2].map V.int)) ha).drawn nqp nlp k1
    refine ⟨m, rfl, by omega, by omega, for_range (n := (m : Int).toNat) (fun i σ H' => (∃ v4 v5 : Option V, σ = [some (.ref p), some (.ref l), some (.int own), some (.ref q), v4, v5]) ∧ ∃ ps ls', FI H p c l q ls (2 * i) ps ls' H') ⟨⟨_, _, rfl⟩, _, _, I1⟩ ?_ ?_⟩
    · rintro i σ H2 hi ⟨⟨v4, v5, rfl⟩, ps, ls', I⟩
      refine ⟨fun σ H' => σ = [some (.ref p), some (.ref l), some (.int own), some (.ref q), some (.int (0 + (i : Int))), v5] ∧ ∃ ps, FI H p c l q ls (2 * i + 1) ps ls' H', ?_, ?_⟩
      · refine ⟨_, rfl, p, c, 3, rfl, I.kp.pen, by decide, by decide, fun d H3 d0 d1 k3 => ⟨rfl, _, rfl, ?_⟩⟩
        have I3 := I.drawn nqp nlp k3
        have z := perhaps (2 * i) ps ls' H2 (fun H' => [some (V.ref p), some (.ref l), some (.int own), some (.ref q), some (.int (0 + (i : Int))), v5] = [some (V.ref p), some (.ref l), some (.int own), some (.ref q), some (.int (0 + (i : Int))), v5] ∧ ∃ ps, FI H p c l q ls (2 * i + 1) ps ls' H') (by omega) I (fun ps' H4 h4 => ⟨rfl, ps', h4⟩) d H3 k3
        by_cases hd : decide (V.int d = V.int 0) = true
        · rw [if_pos hd] at z
          refine iteT' hd ?_
          exact ⟨_, rfl, .inl ⟨rfl, _, SqL.of I3.hq⟩, _, rfl, z⟩
        · rw [if_neg hd] at z
          exact iteF' (eq_false_of_ne_true hd) z
      · rintro σ H3 ⟨rfl, ps3, I3⟩
        refine ⟨_, rfl, Nat.zero_le _, fun e he => ?_⟩
        have I4 := I3.new (o := .lst []) he
        refine ⟨.list ((iN ls').map PyData.int), .list [], .lst (SqL.of I4.hl) (dp_ints _), .lst (SqL.of upd_same) .nil, shaped_ints _, by decide, _, rfl, ?_⟩
        rw [ints_ne_nil]
        by_cases hne : ls' = []
        · subst hne
          refine iteF ?_
          exact ⟨⟨_, _, rfl⟩, ps3, [], by rw [Nat.mul_succ]; exact I4.more (Nat.le_succ _)⟩
        · have hpos : 0 < ls'.length := List.length_pos_iff.mpr hne
          have hle : ls'.length ≤ 100 := by
            have := I4.perm.length_eq
            rw [List.length_append] at this
            omega
          have hem : (!(iN ls').isEmpty) = true := by
            cases ls' with
            | nil => exact absurd rfl hne
            | cons a r => rfl
          rw [hem]
          refine iteT ?_
          refine ⟨fun σ H' => (∃ k : Nat, k < ls'.length ∧ σ = [some (.ref p), some (.ref l), some (.int own), some (.ref q), some (.int (0 + (i : Int))), some (.int k)]) ∧ FI H p c l q ls (2 * i + 1) ps3 ls' H', ?_, ?_⟩
          · -- which one: the own one, or a drawn one
            have other : ∀ H4, FI H p c l q ls (2 * i + 1) ps3 ls' H4 → spDraw [.ref p, .int (((iN ls').map V.int).length : Nat)] H4 (fun x H' => (∃ k : Nat, k < ls'.length ∧ [some (V.ref p), some (.ref l), some (.int own), some (.ref q), some (.int (0 + (i : Int))), some x] = [some (.ref p), some (.ref l), some (.int own), some (.ref q), some (.int (0 + (i : Int))), some (.int k)]) ∧ FI H p c l q ls (2 * i + 1) ps3 ls' H') E0 := fun H4 J => by
              have en : ((iN ls').map V.int).length = ls'.length := by
                unfold iN
                rw [List.length_map, List.length_map]
              rw [en]
              refine ⟨p, c, _, rfl, J.kp.pen, by omega, log_small (by omega) (by omega), fun d H5 d0 d1 k5 => ⟨⟨d.toNat, by omega, ?_⟩, J.drawn nqp nlp k5⟩⟩
              rw [Int.toNat_of_nonneg d0]
            refine ⟨_, rfl, _, rfl, l, _, rfl, .inl (SqL.of I4.hl), rfl, flat_ints _, _, rfl, ?_⟩
            cases hin : inV (.int own) ((iN ls').map V.int) with
            | false =>
              refine iteF (iteF ?_)
              exact ⟨_, rfl, _, rfl, l, _, rfl, .inl (SqL.of I4.hl), other _ I4⟩
            | true =>
              refine iteT ?_
              refine ⟨_, rfl, p, c, 3, rfl, I4.kp.pen, by decide, by decide, fun d H5 d0 d1 k5 => ?_⟩
              have I5 := I4.drawn nqp nlp k5
              refine ⟨_, _, rfl, rfl, _, rfl, ?_⟩
              refine ite2 (fun _ => ?_) (fun _ => ?_)
              · obtain ⟨j, z, j1, j2, j3⟩ := first_hit (xs := (iN ls').map V.int) (t := fun y => eqV y (.int own)) hin
                have hj : j < ls'.length := by
                  have q := (List.getElem?_eq_some_iff.mp j1).1
                  unfold iN at q
                  rw [List.length_map, List.length_map] at q
                  exact q
                exact ⟨_, rfl, .inl ⟨rfl, _, SqL.of I5.hl⟩, _, rfl, l, _, _, j, z, rfl, rfl, SqL.of I5.hl, rfl, flat_ints _, j1, j2, j3, ⟨j, hj, rfl⟩, I5⟩
              · exact ⟨_, rfl, _, rfl, l, _, rfl, .inl (SqL.of I5.hl), other _ I5⟩
          · rintro σ H4 ⟨⟨k', hk, rfl⟩, I5⟩
            have hlen : ((iN ls').map V.int).length = ls'.length := by
              unfold iN
              rw [List.length_map, List.length_map]
            refine ⟨_, rfl, .inl ⟨rfl, _, SqL.of I5.hq⟩, _, rfl, .inl ⟨rfl, _, SqL.of I5.hl⟩, _, rfl, l, _, _, k', .int (ls'[k'] : Nat), rfl, rfl, I5.hl, by omega, by omega, ?_, ?_, ?_⟩
            · refine (ixN_seq (n := ((iN ls').map V.int).length) (i := (k' : Int)) (j := k') ?_).1
              unfold ixN
              rw [if_pos (by omega), if_pos (by omega)]
              exact congrArg some (by omega)
            · unfold iN
              rw [List.getElem?_map, List.getElem?_map, List.getElem?_eq_getElem hk]
              rfl
            · refine ⟨q, _, _, rfl, rfl, (by rw [upd_ne nql]; exact I5.hq), ?_, ⟨_, _, rfl⟩, ps3 ++ [.b ls'[k']], ls'.eraseIdx k', ?_⟩
              · rw [List.length_map]
                exact Nat.lt_of_le_of_lt (Nat.le_trans I5.len (show 2 * i + 1 ≤ 100 by omega)) (by decide)
              · rw [Nat.mul_succ]
                exact I5.take hPh hq nql hk
    · rintro σ H2 ⟨⟨v4, v5, rfl⟩, ps, ls', I⟩
      have I' := I.more (show 2 * (m : Int).toNat ≤ 4 by omega)
      refine ⟨fun σ H' => σ = [some (.ref p), some (.ref l), some (.int own), some (.ref q), v4, v5] ∧ ∃ ps, FI H p c l q ls 5 ps ls' H', ?_, ?_⟩
      · refine ⟨_, rfl, p, c, 2, rfl, I.kp.pen, by decide, by decide, fun d H3 d0 d1 k3 => ⟨rfl, _, rfl, ?_⟩⟩
        have I3 := I'.drawn nqp nlp k3
        have z := perhaps 4 ps ls' H2 (fun H' => [some (V.ref p), some (.ref l), some (.int own), some (.ref q), v4, v5] = [some (V.ref p), some (.ref l), some (.int own), some (.ref q), v4, v5] ∧ ∃ ps, FI H p c l q ls 5 ps ls' H') (by omega) I' (fun ps' H4 h4 => ⟨rfl, ps', h4⟩) d H3 k3
        by_cases hd : decide (V.int d = V.int 0) = true
        · rw [if_pos hd] at z
          refine iteT' hd ?_
          exact ⟨_, rfl, .inl ⟨rfl, _, SqL.of I3.hq⟩, _, rfl, z⟩
        · rw [if_neg hd] at z
          exact iteF' (eq_false_of_ne_true hd) z
      · rintro σ H3 ⟨rfl, ps3, I3⟩
        have hlen3 : ps3.length ≤ 5 := I3.len
        have hlet3 : lets ps3 ≤ 10 := I3.lt
        refine ⟨_, rfl, q, ps3, rfl, SqL.of I3.hq, Nat.le_trans hlen3 (by decide), Nat.le_trans hlet3 (by decide), I3.low, fun t H4 s4 t3 t4 => ?_⟩
        obtain ⟨n1, n2, n3, n4⟩ := normal_ok ps3 []
        refine k (normal ps3) t ls' H4 (I3.kp.same s4) (I3.kp.freeH I3.hl t3) t4 (s4 _ _ I3.hl) ?_ ?_ ?_ ?_
        · have e : bufs (normal ps3) = bufs ps3 := n1
          rw [e]
          exact I3.perm
        · have e : lets (normal ps3) = 0 + lets ps3 := n2
          omega
        · exact n4 (fun x hx => by cases hx) I3.low
        · have e : (normal ps3).length ≤ 0 + ps3.length := n3
          omega
end

/-! ### the recipes of an entry -/
def Rc.d (r : Rc) : PyData := .tuple (r.map Pt.d)
def fillsD (fs : List Rc) : PyData := .tuple (fs.map Rc.d)
/-- a recipe as it is drawn -/
structure ROk (r : Rc) : Prop where
  lt : lets r ≤ 10
  low : lowR r
  len : r.length ≤ 5
structure FOk (n : Nat) (fs : List Rc) : Prop where
  len : fs.length = n
  nd : (fs.flatMap bufs).Nodup
  lt : ∀ i ∈ fs.flatMap bufs, i < n
  each : ∀ r ∈ fs, ROk r
theorem tp_rc {H : Hp} {t : Addr} {r : Rc} (h : H t = some (.tup (r.map Pt.v))) : Tp H (.ref t) r.d := .tup h (tp_parts r)

/-- what a dict of recipes holds -/
abbrev Ent := Nat × Addr × Rc
def kvsE (xs : List Ent) : List (Key × V) := xs.map fun x => (Sum.inl (x.1 : Int), V.ref x.2.1)
def pickE (xs : List Ent) (n : Nat) : Addr × Rc := ((xs.find? fun x => decide (x.1 = n)).map (·.2)).getD (0, [])
theorem put_new (xs : List Ent) (n : Nat) (v : V) (h : n ∉ xs.map (·.1)) : putK (kvsE xs) (Sum.inl (n : Int)) v = kvsE xs ++ [(Sum.inl (n : Int), v)] := by
  unfold putK
  rw [if_neg]
  intro z
  rw [List.any_eq_true] at z
  obtain ⟨kv, h1, h2⟩ := z
  obtain ⟨x, h3, rfl⟩ := List.mem_map.mp h1
  have e : (Sum.inl (x.1 : Int) : Key) = Sum.inl (n : Int) := of_decide_eq_true h2
  have e2 : (x.1 : Int) = (n : Int) := Sum.inl.inj e
  have e3 : x.1 = n := by omega
  exact h (e3 ▸ List.mem_map_of_mem h3)
theorem pick_val : ∀ (xs : List Ent) (n : Nat), n ∈ xs.map (·.1) → valV (kvsE xs) (Sum.inl (n : Int)) = some (.ref (pickE xs n).1) ∧ (n, pickE xs n) ∈ xs
  | [], _, h => by cases h
  | x :: r, n, h => by
    by_cases hx : x.1 = n
    · have e1 : pickE (x :: r) n = x.2 := by
        unfold pickE
        rw [List.find?_cons_of_pos (by exact decide_eq_true hx)]
        rfl
      rw [e1]
      refine ⟨valV_pos (by show (Sum.inl (x.1 : Int) : Key) = Sum.inl (n : Int); rw [hx]), ?_⟩
      rw [← hx]
      exact List.mem_cons_self
    · have hr : n ∈ r.map (·.1) := by
        rw [List.map_cons] at h
        rcases List.mem_cons.mp h with h | h
        · exact absurd h.symm hx
        · exact h
      obtain ⟨h1, h2⟩ := pick_val r n hr
      have e1 : pickE (x :: r) n = pickE r n := by
        unfold pickE
        rw [List.find?_cons_of_neg (by intro z; exact hx (of_decide_eq_true z))]
      rw [e1]
      refine ⟨(valV_neg (p := (Sum.inl (x.1 : Int), V.ref x.2.1)) (r := kvsE r) (fun z => hx ?_)).trans h1, List.mem_cons_of_mem _ h2⟩
      have e2 : (x.1 : Int) = (n : Int) := Sum.inl.inj z
      omega
theorem pick_self : ∀ (xs : List Ent), (xs.map (·.1)).Nodup → ∀ x ∈ xs, pickE xs x.1 = x.2
  | [], _, _, h => by cases h
  | y :: r, nd, x, h => by
    rw [List.map_cons, List.nodup_cons] at nd
    rcases List.mem_cons.mp h with rfl | h
    · unfold pickE
      rw [List.find?_cons_of_pos (by exact decide_eq_true rfl)]
      rfl
    · have hne : ¬ y.1 = x.1 := fun z => nd.1 (z ▸ List.mem_map_of_mem h)
      have e1 : pickE (y :: r) x.1 = pickE r x.1 := by
        unfold pickE
        rw [List.find?_cons_of_neg (by intro z; exact hne (of_decide_eq_true z))]
      rw [e1]
      exact pick_self r nd.2 x h
theorem flat_same {α β : Type} {g h : α → List β} : ∀ {l : List α}, (∀ x ∈ l, g x = h x) → l.flatMap g = l.flatMap h
  | [], _ => rfl
  | x :: r, e => by rw [List.flatMap_cons, List.flatMap_cons, e x List.mem_cons_self, flat_same fun y hy => e y (List.mem_cons_of_mem _ hy)]
/-- behind the loop: the recipes in the buffers' order -/
theorem fok_of {n : Nat} {xs : List Ent} {os ls' : List Nat} (he : xs.map (·.1) = os) (ho : os.Perm (List.range n)) (hp : (xs.flatMap (fun x => bufs x.2.2) ++ ls').Perm (List.range n)) (hr : ∀ x ∈ xs, ROk x.2.2) :
    FOk n ((List.range n).map fun i => (pickE xs i).2) := by
  have nd : (xs.map (·.1)).Nodup := by rw [he]; exact ho.nodup_iff.mpr List.nodup_range
  have e1 : xs.flatMap (fun x => bufs x.2.2) = os.flatMap fun i => bufs (pickE xs i).2 := by
    rw [← he, List.flatMap_map]
    exact flat_same fun x hx => by rw [pick_self xs nd x hx]
  have e2 : (((List.range n).map fun i => (pickE xs i).2).flatMap bufs).Perm (xs.flatMap fun x => bufs x.2.2) := by
    rw [e1, List.flatMap_map]
    exact (ho.flatMap_right _).symm
  have nd2 : (xs.flatMap (fun x => bufs x.2.2)).Nodup := (List.nodup_append.mp (hp.nodup_iff.mpr List.nodup_range)).1
  refine ⟨by rw [List.length_map, List.length_range], e2.nodup_iff.mpr nd2, fun i hi => ?_, fun r hr' => ?_⟩
  · have h1 := hp.mem_iff.mp (List.mem_append_left ls' (e2.mem_iff.mp hi))
    exact List.mem_range.mp h1
  · obtain ⟨i, h1, rfl⟩ := List.mem_map.mp hr'
    have h2 : i ∈ xs.map (·.1) := by rw [he]; exact ho.mem_iff.mpr h1
    exact hr _ (pick_val xs i h2).2

def spFills : Sp := fun vs H Q _ => ∃ (p c : Addr) (n : Nat), vs = [.ref p, .int n] ∧ Pen H p c ∧ n ≤ 50 ∧
  ∀ (fs : List Rc) (t : Addr) H', Kp p c H H' → Tp H' (.ref t) (fillsD fs) → FOk n fs → Q (.ref t) H'
/-- a recipe, or None -/
def endD : Option Rc → PyData
  | none => .none
  | some r => r.d
/-- a recipe as it may stand at an end: drawn, or with a letter more -/
structure ROkE (r : Rc) : Prop where
  lt : lets r ≤ 12
  low : lowR r
  len : r.length ≤ 6
theorem ROk.e {r : Rc} (h : ROk r) : ROkE r := ⟨by have := h.lt; omega, h.low, by have := h.len; omega⟩
structure EOk (n : Nat) (r : Rc) : Prop where
  nd : (bufs r).Nodup
  lt : ∀ i ∈ bufs r, i < n
  ok : ROkE r
def spEnd : Sp := fun vs H Q _ => ∃ (p c : Addr) (n : Nat), vs = [.ref p, .int n] ∧ Pen H p c ∧ n ≤ 50 ∧
  ∀ (r : Option Rc) (x : V) H', Kp p c H H' → Tp H' x (endD r) → (∀ q, r = some q → EOk n q ∧ ROk q) → Q x H'
theorem sc_fills : FnScope ["pen", "buffers", "left", "order", "found", "buffer"] ["pen", "buffers"] (fnScope st_law_fills) := fnScope_by (by decide +kernel)
theorem sc_end : FnScope ["pen", "buffers"] ["pen", "buffers"] (fnScope st_law_end) := fnScope_by (by decide +kernel)
section
variable {P : Program} {w : World} {K : PySem.W.Frag} {mg : Str → Option Value} {base : Heap} {f : Addr} {fd : FuncData}
theorem cal_end (F : C8.Def K mg "_law_end" st_law_end f fd) (b : Binds K fd ["pen", "buffers"] []) (B : BN2 mg) (Cd : Cal P w K mg base 2 "_law_draw" spDraw []) (Cf : Cal P w K mg base 5 "_law_fill" spFill []) : Cal P w K mg base 6 "_law_end" spEnd [] := by
  refine cal0 F b .nil sc_end (fun vs H Q E h => ?_) (fun cdv A outer s H vs Q E hr h => ?_)
  · obtain ⟨p, c, n, rfl, _⟩ := h
    rfl
  · obtain ⟨p, c, n, rfl, hP, hn, k⟩ := h
    refine ⟨_, pss_one (ps_ret (pe_ifExp (pt_cmpR op_gt (pe_c Cd hr (by decide) (by rfl) (pa_cons (pv 0) (pa_cons pe_int pa_nil))) pe_int (nomark _))
      (pe_c Cf hr (by decide) (by rfl) (pa_cons (pv 0) (pa_cons (pe_listRg rfl (by rfl) B.list (prg_1 (by rfl) B.range (pv 1))) (pa_cons (pe_op op_sub (pv 1) pe_int) pa_nil)))) pe_non)), ?_⟩
    refine ⟨_, rfl, p, c, 5, rfl, hP, by decide, by decide, fun d H1 d0 d1 k1 => ⟨_, _, rfl, rfl, _, rfl, ?_⟩⟩
    refine ite2 (fun _ => ?_) (fun _ => ?_)
    · refine ⟨_, rfl, _, rfl, n, rfl, RgOk.of_le (by decide) (by omega) (by decide) (by omega), fun l hl => ⟨_, rfl, _, _, rfl, rfl, ?_⟩⟩
      have k2 := k1.new (o := .lst (rgV 0 (n : Int))) hl
      refine ⟨p, c, l, List.range n, _, rfl, k2.pen, k1.pen.ne hl, k1.pen.neC hl, by rw [upd_same, rg_eq], by rw [List.length_range]; omega, fun r t ls' H2 kk t0 t1 _ pm l1 l2 l3 => ?_⟩
      have k3 : Kp p c H H2 := k2.thru kk (k1.free hl)
      refine k (some r) _ H2 k3 (tp_rc t1) fun q e => ?_
      cases e
      have nd := (List.nodup_append.mp (pm.nodup_iff.mpr List.nodup_range)).1
      exact ⟨⟨nd, fun i hi => List.mem_range.mp (pm.mem_iff.mp (List.mem_append_left _ hi)), ROk.e ⟨l1, l2, l3⟩⟩, l1, l2, l3⟩
    · exact k none _ H1 k1 .non fun q e => by cases e
theorem cal_fills (F : C8.Def K mg "_law_fills" st_law_fills f fd) (b : Binds K fd ["pen", "buffers"] []) (B : BN2 mg) (Cd : Cal P w K mg base 2 "_law_draw" spDraw []) (Cf : Cal P w K mg base 5 "_law_fill" spFill []) : Cal P w K mg base 6 "_law_fills" spFills [] := by
  refine cal0 F b .nil sc_fills (fun vs H Q E h => ?_) (fun cdv A outer s H vs Q E hr h => ?_)
  · obtain ⟨p, c, n, rfl, _⟩ := h
    rfl
  · obtain ⟨p, c, n, rfl, hP, hn, k⟩ := h
    refine ⟨_, pss_cons (ps_set (i := 2) sc_fills.nd rfl (Or.inl rfl) (pe_listRg rfl (by rfl) B.list (prg_1 (by rfl) B.range (pv 1))))
      (pss_cut (ps_set (i := 3) sc_fills.nd rfl (Or.inl rfl) (pe_ifExp (pt_cmpR op_eq (pe_c Cd hr (by decide) (by rfl) (pa_cons (pv 0) (pa_cons pe_int pa_nil))) pe_int (nomark _)) (pe_revL (pv 2)) (pe_callTy call_list_of (by rfl) B.list (by decide +kernel) (pa_cons (pv 2) pa_nil))))
      (pss_cons (ps_set (i := 4) sc_fills.nd rfl (Or.inr rfl) pe_dnewK)
      (pss_cons (ps_for PassesOwn.never rfl (pi_list (pv 3)) (pg_name (i := 5) sc_fills.nd rfl (Or.inl rfl))
        (pss_one (ps_dput (hu_of hr) (pv 4) (pv 5) (pe_c Cf hr (by decide) (by rfl) (pa_cons (pv 0) (pa_cons (pv 2) (pa_cons (pv 5) pa_nil)))) rfl)))
      (pss_one (ps_ret (pe_callTy call_tuple_of (by rfl) B.tuple (by decide +kernel) (pa_cons (pe_lc (own := [("buffer", 5)]) (g := gName 5) (tt := tYes) (by rfl) sc_fills.nd (pi_range1 rfl B.range (pa_cons (pv 1) pa_nil))
        (blkOk_by (own := [("buffer", 5)]) (N := ["pen", "buffers", "left", "order", "found", "buffer"]) (sc := fnScope st_law_fills) (by decide +kernel)) (fun _ _ _ _ _ => pg_name (i := 5) sc_fills.nd rfl (Or.inl rfl)) (fun _ _ _ _ _ => pts_nil)
        (fun _ _ _ _ _ => pe_dget (hu_of hr) (pv 4) (pv 5) (fun _ _ => rfl))) pa_nil))))))), ?_⟩
    refine ⟨_, rfl, n, rfl, RgOk.of_le (by decide) (by omega) (by decide) (by omega), fun l hl => ?_⟩
    have kl : Kp p c H (upd H l (.lst (rgV 0 (n : Int)))) := (Kp.rfl' hP).new hl
    have nlp : l ≠ p := hP.ne hl
    have nlc : l ≠ c := hP.neC hl
    have hL : upd H l (.lst (rgV 0 (n : Int))) l = some (.lst ((iN (List.range n)).map V.int)) := by rw [upd_same, rg_eq]
    -- the order: the buffers, in one order
    refine ⟨fun σ H' => ∃ (o : Addr) (os : List Nat), σ = [some (.ref p), some (.int n), some (.ref l), some (.ref o), none, none] ∧ os.Perm (List.range n) ∧ Kp p c H H' ∧ H o = none ∧ o ≠ l ∧ H' o = some (.lst ((iN os).map V.int)) ∧ H' l = some (.lst ((iN (List.range n)).map V.int)), ?_, ?_⟩
    · refine ⟨_, rfl, p, c, 4, rfl, kl.pen, by decide, by decide, fun d H1 d0 d1 k1 => ⟨rfl, _, rfl, ?_⟩⟩
      have kA := kl.trans k1
      have hL1 := k1.but _ _ nlp hL
      refine ite2 (fun _ => ?_) (fun _ => ?_)
      · refine ⟨_, rfl, l, _, rfl, SqL.of hL1, fun o ho => ⟨o, (List.range n).reverse, rfl, List.reverse_perm _, kA.new ho, kA.free ho, (ne_of_none hL1 ho).symm, ?_, ?_⟩⟩
        · rw [upd_same]
          unfold iN
          rw [List.map_reverse, List.map_reverse]
        · rw [upd_ne (ne_of_none hL1 ho)]
          exact hL1
      · refine ⟨_, rfl, l, _, rfl, .inl (SqL.of hL1), fun o ho => ⟨o, List.range n, rfl, List.Perm.refl _, kA.new ho, kA.free ho, (ne_of_none hL1 ho).symm, upd_same, ?_⟩⟩
        rw [upd_ne (ne_of_none hL1 ho)]
        exact hL1
    · rintro σ H1 ⟨o, os, rfl, hos, k1, o0, nol, hO, hL1⟩
      intro D hD
      have nop : o ≠ p := hP.ne o0
      have hDl : D ≠ l := (ne_of_none hL1 hD).symm
      have hDo : D ≠ o := (ne_of_none hO hD).symm
      have D0 : H D = none := k1.free hD
      have nDp : D ≠ p := hP.ne D0
      refine ⟨_, rfl, o, rfl, ⟨_, (show SqL K (upd H1 D (.dK [])) o ((iN os).map V.int) from SqL.of (by rw [upd_ne hDo.symm]; exact hO))⟩, for_list (K := K) (a := o) (xs := (iN os).map V.int)
        (fun i σ H' => (∃ v : Option V, σ = [some (.ref p), some (.int n), some (.ref l), some (.ref o), some (.ref D), v]) ∧ Kp p c H H' ∧ H' o = some (.lst ((iN os).map V.int)) ∧ ∃ (xs : List Ent) (ls' : List Nat), xs.map (·.1) = os.take i ∧ H' D = some (.dK (kvsE xs)) ∧ H' l = some (.lst ((iN ls').map V.int)) ∧
          (xs.flatMap (fun x => bufs x.2.2) ++ ls').Perm (List.range n) ∧ ∀ x ∈ xs, H' x.2.1 = some (.tup (x.2.2.map Pt.v)) ∧ ROk x.2.2)
        ⟨⟨none, rfl⟩, k1.new hD, by rw [upd_ne hDo.symm]; exact hO, [], List.range n, rfl, upd_same, by rw [upd_ne hDl.symm]; exact hL1, List.Perm.refl _, fun x hx => by cases hx⟩ (fun i σ H' _ h => SqL.of h.2.2.1) ?_ ?_⟩
      · rintro i y σ H2 hi ⟨⟨v, rfl⟩, k2, hO2, xs, ls', ex, hD2, hL2, hp, hx⟩
        obtain ⟨z, hz, rfl⟩ : ∃ z, os[i]? = some z ∧ y = V.int (z : Nat) := by
          unfold iN at hi
          rw [List.map_map, List.getElem?_map] at hi
          cases e : os[i]? with
          | none =>
            rw [e] at hi
            cases hi
          | some u =>
            rw [e] at hi
            exact ⟨u, rfl, (Option.some.inj hi).symm⟩
        have hln : ls'.length ≤ 100 := by
          have := hp.length_eq
          rw [List.length_append, List.length_range] at this
          omega
        refine ⟨_, rfl, _, rfl, _, rfl, p, c, l, ls', _, rfl, k2.pen, nlp, nlc, hL2, hln, fun r t ls2 H3 k3 t0 t1 t2 pm l1 l2 l3 => ?_⟩
        have hD3 : H3 D = some (.dK (kvsE xs)) := k3.unhide nDp hDl hD2
        have hO3 := k3.unhide nop nol hO2
        have zn : z ∉ xs.map (·.1) := by
          rw [ex]
          intro zm
          have nd : os.Nodup := hos.nodup_iff.mpr List.nodup_range
          obtain ⟨j, hj⟩ := List.mem_iff_getElem?.mp zm
          have hji : j < i := by
            have := (List.getElem?_eq_some_iff.mp hj).1
            rw [List.length_take] at this
            omega
          rw [List.getElem?_take_of_lt hji] at hj
          have := nd_ix nd hj hz
          omega
        have hle : (kvsE xs).length ≤ 50 := by
          unfold kvsE
          rw [List.length_map]
          have e1 := congrArg List.length ex
          have e2 := hos.length_eq
          rw [List.length_map, List.length_take] at e1
          rw [List.length_range] at e2
          omega
        have putD : DPut H3 D (.int (z : Nat)) (.ref t) (upd H3 D (.dK (kvsE xs ++ [(Sum.inl (z : Int), .ref t)]))) := by
          have q := DPut.k (k := Sum.inl (z : Int)) (v := V.ref t) hD3 (Nat.lt_of_le_of_lt hle (by decide))
          rw [put_new xs z _ zn] at q
          exact q
        have hDt : D ≠ t := by
          have e : H2 D = some (.dK (kvsE xs)) := hD2
          exact ne_of_none e t0
        refine ⟨_, rfl, _, rfl, D, _, rfl, putD, ⟨_, rfl⟩, ?_, ?_, xs ++ [(z, t, r)], ls2, ?_, ?_, ?_, ?_, ?_⟩
        · exact (k2.thru k3 hl).put hP D0
        · rw [upd_ne hDo.symm]
          exact hO3
        · rw [List.map_append, ex, List.take_add_one, hz]
          rfl
        · rw [upd_same]
          unfold kvsE
          rw [List.map_append]
          rfl
        · rw [upd_ne hDl.symm]
          exact t2
        · rw [List.flatMap_append, List.flatMap_cons, List.flatMap_nil, List.append_nil, List.append_assoc]
          exact (pm.append_left _).trans hp
        · intro x hm
          rcases List.mem_append.mp hm with hm | hm
          · obtain ⟨h1, h2⟩ := hx x hm
            refine ⟨?_, h2⟩
            rw [upd_ne (ne_of h1 hD2 (by intro q; cases q))]
            exact k3.unhide (by
              obtain ⟨ns, i', j', g1, _⟩ := k2.pen
              exact ne_of h1 g1 (by intro q; cases q)) (ne_of h1 hL2 (by intro q; cases q)) h1
          · obtain rfl := List.mem_singleton.mp hm
            refine ⟨?_, l1, l2, l3⟩
            rw [upd_ne hDt.symm]
            exact t1
      · rintro σ H2 ⟨⟨v, rfl⟩, k2, hO2, xs, ls', ex, hD2, hL2, hp, hx⟩
        have eos : ((iN os).map V.int).length = os.length := by
          unfold iN
          rw [List.length_map, List.length_map]
        rw [eos, List.take_length] at ex
        have fok := fok_of ex hos hp fun x hm => (hx x hm).2
        refine ⟨_, rfl, n, rfl, by omega, by omega, fun E hE => ?_⟩
        refine lc_range (lo := 0) (n := (n : Int).toNat) (fun i H' => Same H2 H' ∧ H' E = some (.lst ((List.range i).map fun j => V.ref (pickE xs j).1))) ⟨same_new hE, upd_same⟩ ?_ ?_
        · rintro i H3 hi ⟨s3, hE3⟩
          have him : i ∈ xs.map (·.1) := by
            rw [ex]
            exact hos.mem_iff.mpr (List.mem_range.mpr (by omega))
          refine ⟨rfl, ?_⟩
          refine ⟨_, rfl, _, rfl, D, V.ref (pickE xs i).1, rfl, ?_, ?_⟩
          · have q := DGet.k (k := Sum.inl (i : Int)) (s3 _ _ hD2)
            rw [(pick_val xs i him).1] at q
            have e : V.int (0 + (i : Int)) = kV (Sum.inl (i : Int)) := by
              rw [Int.zero_add]
              rfl
            rw [e]
            exact q
          · refine ⟨_, hE3, ?_, ?_, ?_⟩
            · rw [List.length_map, List.length_range]
              exact Nat.lt_of_lt_of_le (show i < 100 by omega) (by decide)
            · intro b' o' e'
              rw [upd_ne (ne_of_none e' hE)]
              exact s3 _ _ e'
            · rw [upd_same, List.range_succ, List.map_append]
              rfl
        · rintro H3 ⟨s3, hE3⟩
          refine ⟨E, _, rfl, .inl ⟨SqL.of hE3, fun t ht => ?_⟩⟩
          refine k _ t _ ((k2.same s3).new ht) (.tup upd_same ?_) fok
          rw [Int.toNat_natCast, List.map_map]
          refine TpAll.map fun i hi => ?_
          have him : i ∈ xs.map (·.1) := by
            rw [ex]
            exact hos.mem_iff.mpr hi
          have h1 := (hx _ (pick_val xs i him).2).1
          exact tp_rc (by rw [upd_ne (ne_of_none (s3 _ _ h1) ht)]; exact s3 _ _ h1)
end

/-! ### lists of data that are being made -/
/-- a list of data that is being made -/
def LAt (H : Hp) (R : Addr) (ds : List PyData) : Prop := ∃ vs, H R = some (.lst vs) ∧ TpAll H vs ds
theorem LAt.kp {p c R : Addr} {H1 H2 : Hp} {ds : List PyData} (h : LAt H1 R ds) (n : R ≠ p) (hP : Pen H1 p c) (k : Kp p c H1 H2) : LAt H2 R ds := by
  obtain ⟨vs, h1, h2⟩ := h
  exact ⟨vs, k.but _ _ n h1, h2.mono (k.tk hP)⟩
theorem LAt.same {R : Addr} {H1 H2 : Hp} {ds : List PyData} (h : LAt H1 R ds) (s : Same H1 H2) : LAt H2 R ds := by
  obtain ⟨vs, h1, h2⟩ := h
  exact ⟨vs, s _ _ h1, h2.mono (Same.tk s)⟩
theorem LAt.put {R q : Addr} {H1 : Hp} {ys : List V} {o : HO} {ds : List PyData} (h : LAt H1 R ds) (hq : H1 q = some (.lst ys)) (n : R ≠ q) : LAt (upd H1 q o) R ds := by
  obtain ⟨vs, h1, h2⟩ := h
  exact ⟨vs, by rw [upd_ne n]; exact h1, h2.mono (tk_lst hq)⟩
theorem LAt.push {R : Addr} {H1 : Hp} {vs : List V} {x : V} {d : PyData} {ds : List PyData} (hv : H1 R = some (.lst vs)) (ha : TpAll H1 vs ds) (hx : Tp H1 x d) : LAt (upd H1 R (.lst (vs ++ [x]))) R (ds ++ [d]) :=
  ⟨vs ++ [x], upd_same, (ha.mono (tk_lst hv)).app (.cons (hx.mono (tk_lst hv)) .nil)⟩

/-! ### writers -/
structure Wr where
  begins : List Str
  rules : List (List (Option (Nat × List Rc)))
  ends : List (Option Rc)
def entD : Option (Nat × List Rc) → PyData
  | none => .none
  | some (t, fs) => .tuple [.int t, fillsD fs]
def rowD (row : List (Option (Nat × List Rc))) : PyData := .tuple (row.map entD)
def Wr.d (W : Wr) : PyData := .tuple [.tuple (W.begins.map .str), .tuple (W.rules.map rowD), .tuple (W.ends.map endD)]
/-- an entry of a writer with S states and B buffers -/
def EntOk (S B : Nat) (e : Option (Nat × List Rc)) : Prop := ∀ t fs, e = some (t, fs) → t < S ∧ FOk B fs
structure WOk (k S B : Nat) (W : Wr) : Prop where
  b1 : W.begins.length = B
  b2 : ∀ z ∈ W.begins, Tx 2 z
  r1 : W.rules.length = S
  r2 : ∀ row ∈ W.rules, row.length = k ∧ ∀ e ∈ row, EntOk S B e
  e1 : W.ends.length = S
  e2 : ∀ e ∈ W.ends, ∀ q, e = some q → EOk B q
/-- the ends are as they were drawn -/
def Tight (W : Wr) : Prop := ∀ e ∈ W.ends, ∀ q, e = some q → ROk q
def spWriterT : Sp := fun vs H Q _ => ∃ (p c : Addr) (k sm bm : Nat), vs = [.ref p, .int k, .int sm, .int bm] ∧ Pen H p c ∧ k ≤ 40 ∧ 0 < sm ∧ sm ≤ 40 ∧ 0 < bm ∧ bm ≤ 40 ∧
  ∀ (W : Wr) (S B : Nat) (t : Addr) H', 1 ≤ S → S ≤ sm → 1 ≤ B → B ≤ bm → WOk k S B W → Tight W → Kp p c H H' → Tp H' (.ref t) W.d → Q (.ref t) H'
def spWriter : Sp := fun vs H Q _ => ∃ (p c : Addr) (k sm bm : Nat), vs = [.ref p, .int k, .int sm, .int bm] ∧ Pen H p c ∧ k ≤ 40 ∧ 0 < sm ∧ sm ≤ 40 ∧ 0 < bm ∧ bm ≤ 40 ∧
  ∀ (W : Wr) (S B : Nat) (t : Addr) H', 1 ≤ S → S ≤ sm → 1 ≤ B → B ≤ bm → WOk k S B W → Kp p c H H' → Tp H' (.ref t) W.d → Q (.ref t) H'
def nWriter : List Str := ["pen", "count", "states", "buffers", "begins", "rules", "state", "row", "kind", "target", "fills", "ends", "lap"]
theorem sc_writer : FnScope nWriter ["pen", "count", "states", "buffers"] (fnScope st_law_writer) := fnScope_by (by decide +kernel)
section
variable {P : Program} {w : World} {K : PySem.W.Frag} {mg : Str → Option Value} {base : Heap} {f : Addr} {fd : FuncData}
theorem cal_writerT (F : C8.Def K mg "_law_writer" st_law_writer f fd) (b : Binds K fd ["pen", "count", "states", "buffers"] []) (B : BN2 mg) (Cd : Cal P w K mg base 2 "_law_draw" spDraw []) (Cp : Cal P w K mg base 4 "_law_piece" spPiece [])
    (Cf : Cal P w K mg base 6 "_law_fills" spFills []) (Ce : Cal P w K mg base 6 "_law_end" spEnd []) : Cal P w K mg base 7 "_law_writer" spWriterT [] := by
  refine cal0 F b .nil sc_writer (fun vs H Q E h => ?_) (fun cdv A outer s H vs Q E hr h => ?_)
  · obtain ⟨p, c, k, sm, bm, rfl, _⟩ := h
    rfl
  · obtain ⟨p, c, kk, sm, bm, rfl, hP, hk, s0, s1, b0, b1, k⟩ := h
    refine ⟨_, pss_cons (ps_asg (pe_tup (pa_cons (pe_op op_add pe_int (pe_c Cd hr (by decide) (by rfl) (pa_cons (pv 0) (pa_cons (pv 2) pa_nil)))) (pa_cons (pe_op op_add pe_int (pe_c Cd hr (by decide) (by rfl) (pa_cons (pv 0) (pa_cons (pv 3) pa_nil)))) pa_nil)))
        (pg_tup rfl (pgs_cons (pg_name (i := 2) sc_writer.nd rfl (Or.inl rfl)) (pgs_cons (pg_name (i := 3) sc_writer.nd rfl (Or.inr rfl)) pgs_nil))))
      (pss_cons (ps_set (i := 4) sc_writer.nd rfl (Or.inl rfl) (pe_callTy call_tuple_of (by rfl) B.tuple (by decide +kernel) (pa_cons (pe_lc (own := [("lap", 12)]) (g := gName 12) (tt := tYes) (by rfl) sc_writer.nd (pi_range1 rfl B.range (pa_cons (pv 3) pa_nil))
          (blkOk_by (own := [("lap", 12)]) (N := nWriter) (sc := fnScope st_law_writer) (by decide +kernel)) (fun _ _ _ _ _ => pg_name (i := 12) sc_writer.nd rfl (Or.inl rfl)) (fun _ _ _ _ _ => pts_nil)
          (fun _ _ _ _ _ => pe_ifExp (pt_cmpR op_eq (pe_c Cd hr (by decide) (by rfl) (pa_cons (pv 0) (pa_cons pe_int pa_nil))) pe_int (nomark _)) (pe_c Cp hr (by decide) (by rfl) (pa_cons (pv 0) (pa_cons pe_int pa_nil))) pe_str)) pa_nil)))
      (pss_cons (ps_set (i := 5) sc_writer.nd rfl (Or.inl rfl) (pe_lst pa_nil))
      (pss_cons (ps_for PassesOwn.never rfl (pi_range1 rfl B.range (pa_cons (pv 2) pa_nil)) (pg_name (i := 6) sc_writer.nd rfl (Or.inl rfl))
        (pss_cons (ps_set (i := 7) sc_writer.nd rfl (Or.inl rfl) (pe_lst pa_nil))
        (pss_cons (ps_for PassesOwn.never rfl (pi_range1 rfl B.range (pa_cons (pv 1) pa_nil)) (pg_name (i := 8) sc_writer.nd rfl (Or.inl rfl))
          (pss_cons (ps_par (i := 9) (j := 10) rfl sc_writer.nd rfl rfl (by decide) rfl rfl (pa_cons (pe_c Cd hr (by decide) (by rfl) (pa_cons (pv 0) (pa_cons (pv 2) pa_nil))) (pa_cons (pe_c Cf hr (by decide) (by rfl) (pa_cons (pv 0) (pa_cons (pv 3) pa_nil))) pa_nil)) (by rfl))
          (pss_one (ps_expr (pe_bm PySem.F.plainAttrs_list PySem.F.slot_list_append PySem.F.type_list_append mt_append (pv 7)
            (pa_cons (pe_ifExp (pt_cmpR op_gt (pe_c Cd hr (by decide) (by rfl) (pa_cons (pv 0) (pa_cons pe_int pa_nil))) pe_int (nomark _)) (pe_tup (pa_cons (pv 9) (pa_cons (pv 10) pa_nil))) pe_non) pa_nil))))))
        (pss_one (ps_expr (pe_bm PySem.F.plainAttrs_list PySem.F.slot_list_append PySem.F.type_list_append mt_append (pv 5) (pa_cons (pe_callTy call_tuple_of (by rfl) B.tuple (by decide +kernel) (pa_cons (pv 7) pa_nil)) pa_nil)))))))
      (pss_cons (ps_setLc (i := 11) (own := [("state", 6)]) (g := gName 6) (tt := tYes) (by rfl) sc_writer.nd rfl rfl (sw_true rfl rfl rfl (by decide +kernel)) (pi_range1 rfl B.range (pa_cons (pv 2) pa_nil))
          (blkOk_by (own := [("state", 6)]) (N := nWriter) (sc := fnScope st_law_writer) (by decide +kernel)) (fun _ _ _ _ _ => pg_name (i := 6) sc_writer.nd rfl (Or.inl rfl)) (fun _ _ _ _ _ => pts_nil)
          (fun _ _ _ _ _ => pe_c Ce hr (by decide) (by rfl) (pa_cons (pv 0) (pa_cons (pv 3) pa_nil))))
      (pss_one (ps_ret (pe_tup (pa_cons (pv 4) (pa_cons (pe_callTy call_tuple_of (by rfl) B.tuple (by decide +kernel) (pa_cons (pv 5) pa_nil)) (pa_cons (pe_callTy call_tuple_of (by rfl) B.tuple (by decide +kernel) (pa_cons (pv 11) pa_nil)) pa_nil)))))))))), ?_⟩
    refine ⟨_, rfl, _, rfl, p, c, sm, rfl, hP, by omega, log_small (by omega) (by omega), fun d H1 d0 d1 k1 => ⟨_, _, rfl, rfl, _, rfl, _, rfl, p, c, bm, rfl, k1.pen, by omega, log_small (by omega) (by omega), fun g H2 g0 g1 k2 => ⟨_, _, rfl, rfl, ?_⟩⟩⟩
    obtain ⟨S, hS⟩ : ∃ S : Nat, 1 + d = (S : Int) := ⟨(1 + d).toNat, by omega⟩
    obtain ⟨Bf, hB⟩ : ∃ Bf : Nat, 1 + g = (Bf : Int) := ⟨(1 + g).toNat, by omega⟩
    have kA := k1.trans k2
    refine ⟨(by show 2 ≤ sizeLine; decide), fun t0 ht0 => ⟨t0, _, rfl, SqT.of upd_same, rfl, .int (S : Int), [.int (Bf : Int)], (by show [V.int (1 + d), V.int (1 + g)] = [V.int (S : Int), V.int (Bf : Int)]; rw [hS, hB]), .int (Bf : Int), [], rfl, rfl, ?_⟩⟩
    have kB := kA.new (o := .tup [.int (1 + d), .int (1 + g)]) ht0
    clear ht0
    generalize upd H2 t0 (.tup [.int (1 + d), .int (1 + g)]) = H3 at kB ⊢
    -- the begins
    refine ⟨_, rfl, Bf, rfl, by omega, by omega, fun D hD => ?_⟩
    refine lc_range (lo := 0) (n := (Bf : Int).toNat) (fun i H' => Kp p c H H' ∧ H D = none ∧ ∃ zs : List Str, H' D = some (.lst (zs.map V.str)) ∧ zs.length = i ∧ ∀ z ∈ zs, Tx 2 z) ⟨kB.new hD, kB.free hD, [], upd_same, rfl, fun z hz => by cases hz⟩ ?_ ?_
    · rintro i H4 hi ⟨k4, D0, zs, hD4, hl, hz⟩
      refine ⟨rfl, ?_⟩
      have nDp := hP.ne D0
      have done : ∀ (z : Str) (H5 : Hp), Tx 2 z → Kp p c H4 H5 → ∃ acc, H5 D = some (.lst acc) ∧ acc.length < sizeLine ∧ Kp p c H (upd H5 D (.lst (acc ++ [.str z]))) ∧ H D = none ∧ ∃ zs : List Str, upd H5 D (.lst (acc ++ [.str z])) D = some (.lst (zs.map V.str)) ∧ zs.length = i + 1 ∧ ∀ z ∈ zs, Tx 2 z := by
        intro z H5 hz5 k5
        refine ⟨_, k5.but _ _ nDp hD4, ?_, (k4.trans k5).put hP D0, D0, zs ++ [z], ?_, ?_, ?_⟩
        · rw [List.length_map]
          exact Nat.lt_of_lt_of_le (show zs.length < 1000 by omega) (by decide)
        · rw [upd_same, List.map_append]
          rfl
        · rw [List.length_append, hl]
          rfl
        · intro y hy
          rcases List.mem_append.mp hy with hy | hy
          · exact hz y hy
          · obtain rfl := List.mem_singleton.mp hy
            exact hz5
      refine ⟨_, rfl, p, c, 4, rfl, k4.pen, by decide, by decide, fun d' H5 d0' d1' k5 => ⟨rfl, _, rfl, ?_⟩⟩
      refine ite2 (fun _ => ?_) (fun _ => ?_)
      · exact ⟨_, rfl, p, c, 2, rfl, k5.pen, by decide, by decide, fun z H6 _ hz6 k6 => done z H6 hz6 (k5.trans k6)⟩
      · exact done "" H5 ⟨by decide, fun c hc => by cases hc⟩ k5
    rintro H4 ⟨k4, D0, zs, hD4, hzl, hz⟩
    refine ⟨D, _, rfl, .inl ⟨SqL.of hD4, fun tb htb => ?_⟩⟩
    have tpb : Tp (upd H4 tb (.tup (zs.map V.str))) (.ref tb) (.tuple (zs.map .str)) := .tup upd_same (TpAll.map fun z _ => .str z)
    have k5 := k4.new (o := .tup (zs.map V.str)) htb
    clear htb hD4
    generalize upd H4 tb (.tup (zs.map V.str)) = H5 at tpb k5 ⊢
    refine ⟨Nat.zero_le _, fun R hR => ?_⟩
    have R0 : H R = none := k5.free hR
    have nRp := hP.ne R0
    -- the rows
    refine ⟨_, rfl, S, rfl, by omega, by omega, for_range (n := (S : Int).toNat) (fun i σ H' => (∃ v6 v7 v8 v9 v10 : Option V, σ = [some (.ref p), some (.int kk), some (.int S), some (.int Bf), some (.ref tb), some (.ref R), v6, v7, v8, v9, v10, none, none]) ∧
      Kp p c H H' ∧ Tp H' (.ref tb) (.tuple (zs.map .str)) ∧ ∃ rows : List (List (Option (Nat × List Rc))), LAt H' R (rows.map rowD) ∧ rows.length = i ∧ ∀ row ∈ rows, row.length = kk ∧ ∀ e ∈ row, EntOk S Bf e)
      ⟨⟨_, _, _, _, _, rfl⟩, k5.new hR, tpb.mono (tk_new hR), [], ⟨[], upd_same, .nil⟩, rfl, fun row hrow => by cases hrow⟩ ?_ ?_⟩
    · rintro i σ H6 hi ⟨⟨v6, v7, v8, v9, v10, rfl⟩, k6, tb6, rows, hR6, hrl, hrow⟩
      refine ⟨Nat.zero_le _, fun w' hw => ?_⟩
      have w0 : H w' = none := k6.free hw
      have nwp := hP.ne w0
      have nRw : R ≠ w' := by
        obtain ⟨vs, h1, _⟩ := hR6
        exact ne_of_none h1 hw
      refine ⟨_, rfl, kk, rfl, by omega, by omega, for_range (n := (kk : Int).toNat) (fun j σ H' => (∃ v8 v9 v10 : Option V, σ = [some (.ref p), some (.int kk), some (.int S), some (.int Bf), some (.ref tb), some (.ref R), some (.int (0 + (i : Int))), some (.ref w'), v8, v9, v10, none, none]) ∧
        Kp p c H H' ∧ Tp H' (.ref tb) (.tuple (zs.map .str)) ∧ LAt H' R (rows.map rowD) ∧ ∃ es : List (Option (Nat × List Rc)), LAt H' w' (es.map entD) ∧ es.length = j ∧ ∀ e ∈ es, EntOk S Bf e)
        ⟨⟨_, _, _, rfl⟩, k6.new hw, tb6.mono (tk_new hw), hR6.same (same_new hw), [], ⟨[], upd_same, .nil⟩, rfl, fun e he => by cases he⟩ ?_ ?_⟩
      · rintro j σ H7 hj ⟨⟨v8, v9, v10, rfl⟩, k7, tb7, hR7, es, hw7, hel, hes⟩
        refine ⟨_, rfl, _, rfl, p, c, S, rfl, k7.pen, by omega, log_small (by omega) (by omega), fun tg H8 t0 t1 k8 => ?_⟩
        refine ⟨_, rfl, _, rfl, p, c, Bf, rfl, k8.pen, by omega, fun fs ft H9 k9 tf hf => ⟨_, _, rfl, ?_⟩⟩
        have k10 := k7.trans (k8.trans k9)
        have k79 := k8.trans k9
        have tb9 := tb7.mono (k79.tk k7.pen)
        have hR9 := hR7.kp nRp k7.pen k79
        obtain ⟨vs, hv9, ha9⟩ := hw7.kp nwp k7.pen k79
        refine ⟨_, rfl, .inl ⟨rfl, _, SqL.of hv9⟩, _, rfl, p, c, 6, rfl, k9.pen, by decide, by decide, fun d6 H10 _ _ k11 => ⟨_, _, rfl, rfl, _, rfl, ?_⟩⟩
        have tb10 := tb9.mono (k11.tk k9.pen)
        have hR10 := hR9.kp nRp k9.pen k11
        have hv10 := k11.but _ _ nwp hv9
        have ha10 := ha9.mono (k11.tk k9.pen)
        have tf10 := tf.mono (k11.tk k9.pen)
        have k12 := k10.trans k11
        have hlen : vs.length < sizeLine := by
          rw [ha10.len, List.length_map]
          exact Nat.lt_of_lt_of_le (show es.length < 1000 by omega) (by decide)
        refine ite2 (fun _ => ?_) (fun _ => ?_)
        · refine ⟨_, rfl, _, rfl, (by show 2 ≤ sizeLine; decide), fun et het => ?_⟩
          have he10 : upd H10 et (.tup [.int tg, .ref ft]) w' = some (.lst vs) := by
            rw [upd_ne (ne_of_none hv10 het)]
            exact hv10
          refine ⟨w', vs, _, rfl, rfl, he10, hlen, ⟨_, _, _, rfl⟩, (k12.new het).put hP w0, (tb10.mono (tk_new het)).mono (tk_lst he10), (hR10.same (same_new het)).put he10 nRw, es ++ [some (tg.toNat, fs)], ?_, ?_, ?_⟩
          · rw [List.map_append]
            refine LAt.push he10 (ha10.mono (tk_new het)) (.tup upd_same (.cons ?_ (.cons (tf10.mono (tk_new het)) .nil)))
            rw [Int.toNat_of_nonneg t0]
            exact .int tg
          · rw [List.length_append, hel]
            rfl
          · intro e hm
            rcases List.mem_append.mp hm with hm | hm
            · exact hes e hm
            · obtain rfl := List.mem_singleton.mp hm
              intro t' fs' he
              cases he
              exact ⟨by omega, hf⟩
        · refine ⟨w', vs, _, rfl, rfl, hv10, hlen, ⟨_, _, _, rfl⟩, k12.put hP w0, tb10.mono (tk_lst hv10), hR10.put hv10 nRw, es ++ [none], ?_, ?_, ?_⟩
          · rw [List.map_append]
            exact LAt.push hv10 ha10 .non
          · rw [List.length_append, hel]
            rfl
          · intro e hm
            rcases List.mem_append.mp hm with hm | hm
            · exact hes e hm
            · obtain rfl := List.mem_singleton.mp hm
              intro t' fs' he
              cases he
      · rintro σ H7 ⟨⟨v8, v9, v10, rfl⟩, k7, tb7, hR7, es, hw7, hel, hes⟩
        obtain ⟨vs, hv7, ha7⟩ := hw7
        refine ⟨_, rfl, .inl ⟨rfl, _, SqL.of (show H7 R = _ from hR7.choose_spec.1)⟩, _, rfl, w', vs, rfl, .inl ⟨SqL.of hv7, fun rt hrt => ?_⟩⟩
        obtain ⟨us, hu7, hb7⟩ := hR7.same (same_new (o := .tup vs) hrt)
        refine ⟨R, us, _, rfl, rfl, hu7, ?_, ⟨_, _, _, _, _, rfl⟩, (k7.new hrt).put hP R0, (tb7.mono (tk_new hrt)).mono (tk_lst hu7), rows ++ [es], ?_, ?_, ?_⟩
        · rw [hb7.len, List.length_map]
          exact Nat.lt_of_lt_of_le (show rows.length < 1000 by omega) (by decide)
        · rw [List.map_append]
          exact LAt.push hu7 hb7 (.tup upd_same (ha7.mono (tk_new hrt)))
        · rw [List.length_append, hrl]
          rfl
        · intro row hm
          rcases List.mem_append.mp hm with hm | hm
          · exact hrow row hm
          · obtain rfl := List.mem_singleton.mp hm
            exact ⟨by omega, hes⟩
    rintro σ H6 ⟨⟨v6, v7, v8, v9, v10, rfl⟩, k6, tb6, rows, hR6, hrl, hrow⟩
    -- the ends
    refine ⟨_, rfl, S, rfl, by omega, by omega, fun D2 hD2 => ?_⟩
    have nRD : R ≠ D2 := by
      obtain ⟨vs, h1, _⟩ := hR6
      exact ne_of_none h1 hD2
    refine lc_range (lo := 0) (n := (S : Int).toNat) (fun i H' => Kp p c H H' ∧ H D2 = none ∧ Tp H' (.ref tb) (.tuple (zs.map .str)) ∧ LAt H' R (rows.map rowD) ∧ ∃ es : List (Option Rc), LAt H' D2 (es.map endD) ∧ es.length = i ∧ ∀ e ∈ es, ∀ q, e = some q → EOk Bf q ∧ ROk q)
      ⟨k6.new hD2, k6.free hD2, tb6.mono (tk_new hD2), hR6.same (same_new hD2), [], ⟨[], upd_same, .nil⟩, rfl, fun e he => by cases he⟩ ?_ ?_
    · rintro i H7 hi ⟨k7, D20, tb7, hR7, es, hw7, hel, hes⟩
      refine ⟨rfl, ?_⟩
      have nD2p := hP.ne D20
      refine ⟨_, rfl, _, rfl, p, c, Bf, rfl, k7.pen, by omega, fun r x H8 k8 tx hx => ?_⟩
      obtain ⟨vs, hv8, ha8⟩ := hw7.kp nD2p k7.pen k8
      refine ⟨vs, hv8, ?_, (k7.trans k8).put hP D20, D20, (tb7.mono (k8.tk k7.pen)).mono (tk_lst hv8), (hR7.kp nRp k7.pen k8).put hv8 nRD, es ++ [r], ?_, ?_, ?_⟩
      · rw [ha8.len, List.length_map]
        exact Nat.lt_of_lt_of_le (show es.length < 1000 by omega) (by decide)
      · rw [List.map_append]
        exact LAt.push hv8 ha8 tx
      · rw [List.length_append, hel]
        rfl
      · intro e hm
        rcases List.mem_append.mp hm with hm | hm
        · exact hes e hm
        · obtain rfl := List.mem_singleton.mp hm
          exact hx
    · rintro H7 ⟨k7, D20, tb7, hR7, es, hw7, hel, hes⟩
      obtain ⟨us, hu7, hb7⟩ := hR7
      obtain ⟨vs, hv7, ha7⟩ := hw7
      refine ⟨_, rfl, _, rfl, R, us, rfl, .inl ⟨SqL.of hu7, fun ra hra => ?_⟩⟩
      refine ⟨_, rfl, D2, vs, rfl, .inl ⟨SqL.of (by rw [upd_ne (ne_of_none hv7 hra)]; exact hv7), fun ea hea => ?_⟩⟩
      refine ⟨(by show 3 ≤ sizeLine; decide), fun t ht => ?_⟩
      have s1' : TK H7 (upd (upd (upd H7 ra (.tup us)) ea (.tup vs)) t (.tup [.ref tb, .ref ra, .ref ea])) := ((tk_new hra).trans (tk_new hea)).trans (tk_new ht)
      refine k ⟨zs, rows, es⟩ S Bf t _ (by omega) (by omega) (by omega) (by omega) ⟨by show zs.length = Bf; omega, hz, by show rows.length = S; omega, hrow, by show es.length = S; omega, fun e he q hq => (hes e he q hq).1⟩ (fun e he q hq => (hes e he q hq).2) (((k7.new hra).new hea).new ht) (.tup upd_same (.cons (tb7.mono s1') (.cons (.tup ?_ (hb7.mono s1')) (.cons (.tup ?_ (ha7.mono s1')) .nil))))
      · exact (tk_new ht) _ _ ((tk_new hea) _ _ upd_same)
      · exact (tk_new ht) _ _ upd_same
theorem cal_writer (F : C8.Def K mg "_law_writer" st_law_writer f fd) (b : Binds K fd ["pen", "count", "states", "buffers"] []) (B : BN2 mg) (Cd : Cal P w K mg base 2 "_law_draw" spDraw []) (Cp : Cal P w K mg base 4 "_law_piece" spPiece [])
    (Cf : Cal P w K mg base 6 "_law_fills" spFills []) (Ce : Cal P w K mg base 6 "_law_end" spEnd []) : Cal P w K mg base 7 "_law_writer" spWriter [] := by
  obtain ⟨g, gd, ps, ds, h1, h2⟩ := (cal_writerT F b B Cd Cp Cf Ce).ex
  refine ⟨g, gd, ps, ds, h1.imp fun vs H Q E q => ?_, h2⟩
  obtain ⟨p, c, k, sm, bm, e1, e2, e3, e4, e5, e6, e7, kk⟩ := q
  exact ⟨p, c, k, sm, bm, e1, e2, e3, e4, e5, e6, e7, fun W S B t H' a1 a2 a3 a4 a5 _ a6 a7 => kk W S B t H' a1 a2 a3 a4 a5 a6 a7⟩
end

/-! ### repr of data -/
theorem str_len (s : String) : (Str.ofString s).length = s.length := ofString_length s
/-- data that may be shown: no deeper than k, its weight at most n -/
structure Neat (k n : Nat) (d : PyData) : Prop where
  lay : d.canLay0 = true
  sh : d.showable = true
  shorts : d.intsShort 13 = true
  dep : d.depth ≤ k
  wt : d.weight ≤ n
structure NeatAll (k n : Nat) (ds : List PyData) : Prop where
  lay : PyData.canLayAll0 ds = true
  sh : PyData.showableAll ds = true
  shorts : PyData.intsShortAll 13 ds = true
  dep : PyData.depthAll ds ≤ k
  wt : PyData.weightAll ds ≤ n
theorem Neat.le {k n k' n' : Nat} {d : PyData} (h : Neat k n d) (hk : k ≤ k') (hn : n ≤ n') : Neat k' n' d := ⟨h.lay, h.sh, h.shorts, Nat.le_trans h.dep hk, Nat.le_trans h.wt hn⟩
theorem NeatAll.le {k n k' n' : Nat} {d : List PyData} (h : NeatAll k n d) (hk : k ≤ k') (hn : n ≤ n') : NeatAll k' n' d := ⟨h.lay, h.sh, h.shorts, Nat.le_trans h.dep hk, Nat.le_trans h.wt hn⟩
theorem neat_none : Neat 0 0 .none := ⟨by simp only [PyData.canLay0], by simp only [PyData.showable], by simp only [PyData.intsShort], by simp only [PyData.depth, Nat.le_refl], by simp only [PyData.weight, Nat.le_refl]⟩
theorem neat_bool (b : Bool) : Neat 0 0 (.bool b) := ⟨by simp only [PyData.canLay0], by simp only [PyData.showable], by simp only [PyData.intsShort], by simp only [PyData.depth, Nat.le_refl], by simp only [PyData.weight, Nat.le_refl]⟩
theorem neat_str {z : Str} (h : PyData.strOk z = true) : Neat 0 z.length (.str z) := ⟨by simp only [PyData.canLay0, h], by simp only [PyData.showable], by simp only [PyData.intsShort], by simp only [PyData.depth, Nat.le_refl], by simp only [PyData.weight]; exact Nat.le_refl _⟩
theorem neat_int {i : Int} (h : i.natAbs < 10 ^ 9) : Neat 0 40 (.int i) := by
  have h2 : i.natAbs.log2 < 30 := by
    by_cases h0 : i.natAbs = 0
    · rw [h0]
      decide
    · rw [Nat.log2_lt h0]
      omega
  refine ⟨by simp only [PyData.canLay0], ?_, ?_, by simp only [PyData.depth, Nat.le_refl], ?_⟩
  · simp only [PyData.showable, decide_eq_true_eq]
    omega
  · simp only [PyData.intsShort, PyData.shown, decide_eq_true_eq]
    have q := int_text_length_le10 (a := i) (k := 12) (by decide) (Nat.lt_trans h (by decide))
    exact decide_eq_true (Nat.le_trans (Nat.le_of_eq (str_len _)) q)
  · simp only [PyData.weight]
    split <;> omega
theorem neatAll_nil {k : Nat} : NeatAll k 0 [] := ⟨by simp only [PyData.canLayAll0], by simp only [PyData.showableAll], by simp only [PyData.intsShortAll], by simp only [PyData.depthAll, Nat.zero_le], by simp only [PyData.weightAll, Nat.le_refl]⟩
theorem NeatAll.cons {k a b : Nat} {d : PyData} {ds : List PyData} (h : Neat k a d) (hs : NeatAll k b ds) : NeatAll k (a + 1 + b) (d :: ds) :=
  ⟨by simp only [PyData.canLayAll0, h.lay, hs.lay, Bool.and_self], by simp only [PyData.showableAll, h.sh, hs.sh, Bool.and_self], by simp only [PyData.intsShortAll, h.shorts, hs.shorts, Bool.and_self],
    by simp only [PyData.depthAll]; exact Nat.max_le.mpr ⟨h.dep, hs.dep⟩, by simp only [PyData.weightAll]; exact Nat.add_le_add (Nat.add_le_add_right h.wt 1) hs.wt⟩
theorem NeatAll.tup {k n : Nat} {ds : List PyData} (h : NeatAll k n ds) : Neat (k + 1) n (.tuple ds) :=
  ⟨by simp only [PyData.canLay0, h.lay], by simp only [PyData.showable, h.sh], by simp only [PyData.intsShort, h.shorts], by simp only [PyData.depth]; exact Nat.succ_le_succ h.dep, by simp only [PyData.weight]; exact h.wt⟩
theorem NeatAll.lst {k n : Nat} {ds : List PyData} (h : NeatAll k n ds) : Neat (k + 1) n (.list ds) :=
  ⟨by simp only [PyData.canLay0, h.lay], by simp only [PyData.showable, h.sh], by simp only [PyData.intsShort, h.shorts], by simp only [PyData.depth]; exact Nat.succ_le_succ h.dep, by simp only [PyData.weight]; exact h.wt⟩
theorem neatAll_map {α : Type} {k a : Nat} {g : α → PyData} : ∀ {l : List α}, (∀ x ∈ l, Neat k a (g x)) → NeatAll k (l.length * (a + 1)) (l.map g)
  | [], _ => by
    rw [List.length_nil, Nat.zero_mul]
    exact neatAll_nil
  | x :: r, h => by
    have q := NeatAll.cons (h x List.mem_cons_self) (neatAll_map (l := r) fun y hy => h y (List.mem_cons_of_mem _ hy))
    rw [List.map_cons, List.length_cons, Nat.succ_mul]
    exact q.le (Nat.le_refl _) (by omega)
theorem Neat.fits {k n : Nat} {d : PyData} (h : Neat k n d) (hk : k ≤ 50) (hn : n ≤ 1000000) : d.shown.length ≤ sizeLine := by
  have e : (2 : Nat) ^ 20 = 1048576 := by decide
  have hl : PyData.layable0 d = true := by
    show (PyData.canLay0 d && decide (PyData.depth d ≤ 64) && decide (PyData.weight d ≤ 2 ^ 20)) = true
    have d1 := h.dep
    have d2 := h.wt
    rw [h.lay, decide_eq_true (show d.depth ≤ 64 by omega), decide_eq_true (show d.weight ≤ 2 ^ 20 by omega)]
    rfl
  exact Nat.le_trans (PyProof.Rows.shown_le13 hl h.shorts) (by decide)

/-- repr(x), x some data -/
def rRepr (K : PySem.W.Frag) : List V → Hp → VK → Prop := fun xs H Q => ∃ (x : V) (d : PyData) (k n : Nat), xs = [x] ∧ Dp K H x d ∧ Neat k n d ∧ k ≤ 50 ∧ n ≤ 1000000 ∧ Q (.str d.shown) H
theorem call_repr {X : Cx} (hg : X.A.guards = some []) (hu : X.A.units + 64 < cLine) : CallR X (.builtin "repr") (rRepr X.K) := by
  intro pins s σ H xs us Q I rel h
  obtain ⟨x, d, k, n, rfl, hd, hn, hk, hw, q⟩ := h
  obtain ⟨u, rfl, ru⟩ := vals1 rel
  obtain ⟨as, rr⟩ := Dp.reads I d x u hd ru
  have fits := hn.fits hk hw
  cases hd with
  | non =>
    cases ru
    exact PySem.P.repr_of_none ⟨.str _, H, I.tok _, ⟨_, rfl⟩, q⟩
  | bl b =>
    cases ru
    exact PySem.P.repr_of_bool ⟨.str _, H, I.tok _, ⟨_, rfl⟩, q⟩
  | int i =>
    obtain ⟨t, rfl⟩ := ru
    exact PySem.P.repr_of_int (by have := hn.sh; simpa only [PyData.showable, decide_eq_true_eq] using this) ⟨.str _, H, I.tok _, ⟨_, rfl⟩, q⟩
  | str z =>
    obtain ⟨t, rfl⟩ := ru
    exact PySem.P.repr_of_str ⟨.str _, H, I.tok _, ⟨_, rfl⟩, q⟩ fits
  | lst _ _ =>
    cases ru
    have dd := hn.dep
    exact repr_of_reads' rr hn.sh (PyData.noDict_hsm (PyData.hasDict_of_canLay _ hn.lay)) hg (by omega) (fun _ _ e => e) (fun h' u tk kk => ⟨.str _, H, I.kept kk, ⟨_, rfl⟩, q⟩) fits
  | tup _ _ =>
    cases ru
    have dd := hn.dep
    exact repr_of_reads' rr hn.sh (PyData.noDict_hsm (PyData.hasDict_of_canLay _ hn.lay)) hg (by omega) (fun _ _ e => e) (fun h' u tk kk => ⟨.str _, H, I.kept kk, ⟨_, rfl⟩, q⟩) fits

/-! ### a def that is called where no container is being shown -/
structure FnG (P : Program) (w : World) (K : PySem.W.Frag) (mg : Str → Option Value) (base : Heap) (k : Nat) (f : Addr) (fd : FuncData) (ps : List Str) (sp : Sp) : Prop where
  many : ∀ vs H Q E, sp vs H Q E → vs.length = ps.length
  goes : ∀ (A : Around) (outer : List Env) (s : Shared) (H : Hp) (args : Args) (us : List Value) (vs : List V) (Q : VK) (E : XK), A.guards = some [] → Room k A → Env0 P w K mg base A outer s H → BindsTo s fd args (ps.zip us) → Vals vs us →
    sp vs H Q E → codeAny (model P w) A (.call (.ref f) args) (CR CX0 outer P w H s Q E) s
section
open PySem.Spec PyProof.Rows
variable {P : Program} {w : World} {K : PySem.W.Frag} {mg : Str → Option Value} {base : Heap}
/-- by its body -/
theorem fnG_by {x qual : Str} {st : Stmt} {f : Addr} {fd : FuncData} {N ps : List Str} {k : Nat} {sp : Sp} (F : C8.Fun K x qual st f fd) (sc : FnScope N ps (fnScope st)) (many : ∀ vs H Q E, sp vs H Q E → vs.length = ps.length)
    (body : ∀ (cdv : Value) (A : Around) (outer : List Env) (s : Shared) (H : Hp) (vs : List V) (Q : VK) (E : XK), A.guards = some [] → Room k (A.deeper (envOfC qual (fnScope st) s.heap.objs.size f cdv)) → sp vs H Q E →
      ∃ t, PSs (cxOf CX0 P w K mg base N qual (fnScope st) f cdv A outer s H E).nox (fnBody st) t ∧ t { nx := fun _ H1 => Q .non H1, rt := Q } (start N vs) H) : FnG P w K mg base (k + 1) f fd ps sp := by
  obtain ⟨oc, od, dV, kV, doc, pm, an, cdv, ct, osl, rfl, atF, code⟩ := F.ex
  constructor
  · exact many
  · intro A outer s H args us vs Q E gu room e0 binds rel asked
    have n := many _ _ _ _ asked
    have kept : ∀ b o, base.get? b = some o → s.heap.get? b = some o := fun b o e => (e0.bs b o e).1
    have inK := e0.mod.kin.keeps kept
    have local' : ∀ y ∈ ps.zip us, (fnScope st).names.lookup y.1 = some .local ∨ ((fnScope st).names.lookup y.1 = some .cell ∧ ((cellsFrom (s.heap.objs.size + 1) (fnScope st).names []).lookup y.1).isSome = true) := by
      rintro ⟨nm, v⟩ mem
      exact (sc.par nm (List.of_mem_zip mem).1).imp id fun c => ⟨c, PySem.W.cellsFrom_some _ _ _ (.inl c)⟩
    refine codeAny_call_function room.depth (inK _ _ atF) rfl sc.co sc.gen rfl (PySem.W.codeRec_of inK code) (binds _ _ _ _ (wpAny_newFunctionEnv_cells sc.kind local' fun env eqE s1 made => ?_))
    cases eqE
    refine ⟨(e0.mod.nolimit.keeps kept).keeps made.toInCall.keep, codeAny_func ?_⟩
    obtain ⟨t, hold, ask⟩ := body cdv A outer s H vs Q E gu (room.deeper _) asked
    refine wpAny_mono (hold.nox.run [] s1 (start N vs) H _ (inv_start sc room.hd e0 n rel made) ask) (fun fl s2 got => ?_) fun _ _ z => z
    cases fl
    case ret u =>
      obtain ⟨v, _, H1, J, rv, q⟩ := got
      exact ⟨v, H1, J.os, J.bare, J.base, J.hok, rv, q⟩
    case next =>
      obtain ⟨_, H1, J, q⟩ := got
      exact ⟨V.non, H1, J.os, J.bare, J.base, J.hok, rfl, q⟩
    case brk =>
      obtain ⟨_, _, _, q⟩ := got
      exact q.elim
    case cont =>
      obtain ⟨_, _, _, q⟩ := got
      exact q.elim
end

/-! ### the end: the law's own def, called with the script -/
section
open PySem.Spec PyProof.Rows
theorem are_vals : ∀ {us : List Value} {ns : List Int}, IntsAre us ns → Vals (ns.map V.int) us
  | _, _, .nil => .nil
  | _, _, .cons _ t r => .cons ⟨t, rfl⟩ (are_vals r)
theorem lawG_end {P : Program} {w : World} {K : PySem.W.Frag} {mg mb : Str → Option Value} {k : Nat} {fa a : Addr} {fd : FuncData} {x : Str} {sp : Sp} {s₁ : Shared} {us : List Value} {ns : List Int}
    (inK : K.In s₁.heap) (gl : s₁.heap.Ns mainGlobals mg) (bl : s₁.heap.Ns builtinsNs mb) (boot : ∀ y : Str, y ≠ "__name__" → mb y = bootBuiltins y) (lim : s₁.heap.NoLimit) (gens : s₁.gens = #[])
    (at_a : s₁.heap.get? a = some { cls := .type "list", data := .seq us.toArray }) (are : IntsAre us ns) (few : ns.length ≤ sizeLine) (room : Room k callerA)
    (F : ∀ base : Heap, K.In base → base.Ns mainGlobals mg → FnG P w K mg base k fa fd [x] sp) (binds : ∀ (s : Shared) (u : Value), BindsTo s fd ⟨[u], []⟩ [(x, u)])
    (asked : ∀ H : Hp, SqL K H a (ns.map V.int) → sp [.ref a] H (fun v _ => v = .bl true) fun _ _ _ => False) :
    codeAny (model P w) callerA (.call (.ref fa) ⟨[.ref a], []⟩) (fun r s' => r = .ok (.ret (.bool true)) ∧ OldK s₁.heap s'.heap ∧ s'.os = s₁.os ∧ AllBare s'.gens) s₁ := by
  have rel := are_vals are
  have n_us := are.length
  suffices core : ∀ H : Hp, (∀ b u, H b = some u → b = a ∧ u = .frz { cls := .type "list", data := .seq us.toArray } (.lst (ns.map V.int)) ∧ K.lookup a = none) → SqL K H a (ns.map V.int) →
      codeAny (model P w) callerA (.call (.ref fa) ⟨[.ref a], []⟩) (fun r s' => r = .ok (.ret (.bool true)) ∧ OldK s₁.heap s'.heap ∧ s'.os = s₁.os ∧ AllBare s'.gens) s₁ by
    cases inF : K.lookup a with
    | some o =>
      have same := inK a o inF
      rw [at_a] at same
      cases same
      refine core (fun _ => none) (fun b u z => by cases z) (.inr ⟨_, us.toArray, _, inF, rfl, rfl, rfl, ?_, ?_⟩)
      · rw [List.size_toArray, n_us]
        exact few
      · rw [List.toList_toArray]
        exact rel
    | none =>
      refine core (fun b => if b = a then some (.frz { cls := .type "list", data := .seq us.toArray } (.lst (ns.map V.int))) else none) (fun b u z => ?_) (.inl (.inr ⟨_, if_pos rfl⟩))
      by_cases e : b = a
      · refine ⟨e, ?_, inF⟩
        have z' : (if b = a then some (HO.frz { cls := .type "list", data := .seq us.toArray } (.lst (ns.map V.int))) else none) = some u := z
        rw [if_pos e] at z'
        exact (Option.some.inj z').symm
      · have z' : (if b = a then some (HO.frz { cls := .type "list", data := .seq us.toArray } (.lst (ns.map V.int))) else none) = some u := z
        rw [if_neg e] at z'
        cases z'
  intro H only sq
  have keepK : K.In (hidT s₁.heap H) := fun b o e => hidT_get (inK b o e) (by
    cases q : H b with
    | none => rfl
    | some u =>
      obtain ⟨e1, _, e2⟩ := only b u q
      rw [e1, e2] at e
      cases e)
  have keepN : ∀ {b : Addr} {m : Str → Option Value}, s₁.heap.Ns b m → (hidT s₁.heap H).Ns b m := by
    rintro b m ⟨o, es, ep, e, d, r⟩
    refine ⟨o, es, ep, hidT_get e ?_, d, r⟩
    cases q : H b with
    | none => rfl
    | some u =>
      obtain ⟨e1, _, _⟩ := only b u q
      rw [e1, at_a] at e
      cases e
      cases d
  have ok : HOk P w H s₁.heap := by
    intro b u q
    obtain ⟨rfl, rfl, _⟩ := only b u q
    exact ⟨at_a, (by rw [List.length_map]; exact few), us, _, rel, at_a⟩
  have start : Env0 P w K mg (hidT s₁.heap H) callerA [] s₁ H := by
    refine ⟨rfl, ⟨keepK, keepN gl, ⟨mb, keepN bl, boot⟩, ?_⟩, fun b o e => of_hidT e, Nat.le_of_eq (hidT_size _ _), trivial, fun b hb => ?_, ok, .of_eq gens⟩
    · obtain ⟨mc, h1, h2⟩ := lim
      exact ⟨mc, keepN h1, h2⟩
    · cases hb
  refine codeAny_mono ((F _ keepK (keepN gl)).goes callerA [] s₁ H ⟨[.ref a], []⟩ [.ref a] [.ref a] _ _ rfl room start (binds s₁ (.ref a)) (.cons rfl .nil) (asked H sq)) fun r s' got => ?_
  match r, got with
  | .error _, got => exact False.elim got
  | .ok .next, got => exact False.elim got
  | .ok .brk, got => exact False.elim got
  | .ok .cont, got => exact False.elim got
  | .ok (.ret u), got =>
    obtain ⟨v, H2, os, bare, un, ok2, ru, q⟩ := got
    have q' : v = .bl true := q
    rw [q'] at ru
    have eu : u = Value.bool true := ru
    refine ⟨by rw [eu], OldK.of_keep fun b o e => ?_, os, bare⟩
    cases z : H b with
    | none => exact un.keep b o e z (fun y => by cases y) (fun y => by cases y)
    | some y =>
      obtain ⟨rfl, rfl, _⟩ := only b y z
      rw [at_a] at e
      cases e
      exact (ok2 _ _ (un.frzs _ _ _ z)).1
/-- the goal that k_head leaves, from the law's promise -/
theorem walkG {l : PySem.W.OpenLaw} {k : Nat} {q : Program} {loose : List Str} {XP : (Str → Option Value) → Heap → Prop} {YP : World → Heap → Prop} {d : DefRec} {K : Params → PySem.W.Frag} {sp : PySem.W.Frag → Sp} {x : Str}
    (most : l.most = some 63) (noDflt : d.params.defaults = []) (room : Room k callerA) (inK : ∀ (w : World) (h : Heap), YP w h → (K w.params).In h)
    (F : ∀ (w : World) (mg : Str → Option Value) (fa : Addr) (h : Heap), (K w.params).In h → h.Ns mainGlobals mg → mg d.name = some (.ref fa) →
      ∃ fd : FuncData, (∀ (s : Shared) (u : Value), BindsTo s fd ⟨[u], []⟩ [(x, u)]) ∧ ∀ base : Heap, (K w.params).In base → base.Ns mainGlobals mg → FnG l.prog w (K w.params) mg base k fa fd [x] (sp (K w.params)))
    (asked : ∀ (K : PySem.W.Frag) (H : Hp) (a : Addr) (ns : List Int), ns.length ≤ 63 → SqL K H a (ns.map V.int) → sp K [.ref a] H (fun v _ => v = .bl true) fun _ _ _ => False) :
    PySem.W.WalkO q loose XP YP l.row.toRowW d [] (fun g us => PySem.call g us) := by
  refine Att.attach_call most noDflt fun w s₀ s₁ mg mb fa o pm cd doc a us ns G Y _ _ _ named obj are few gens => ?_
  have KX := inK w _ Y
  obtain ⟨fd, binds, hF⟩ := F w mg fa _ KX G.T.g named
  exact lawG_end KX G.T.g G.T.b G.T.builtins G.T.nolimit gens obj are (Nat.le_trans few (by decide)) room hF binds fun H sq => asked (K w.params) H a ns few sq
end

/-! ### () * k is () itself -/
section
open PySem.Spec PyProof.Rows
theorem mul_of_empty (l : Addr) (n : Nat) (dd : Option Addr) (sl : Array (Option Value)) (x : Int) (u : Tok) (small : (decide (x < -(2 ^ 63)) || decide (x ≥ 2 ^ 63)) = false) :
    Meets (Builtin.«tuple.__mul__» ⟨[.ref l, .int x u], []⟩) (fun _ R s => s.heap.get? l = some { cls := .type "tuple", dict := dd, data := .seq #[] n, slots := sl } ∧ R (.ok (.ret (Value.ref l))) s) :=
  .of_wp fun _ _ _ _ s h => by
    obtain ⟨heap, gs, dr, tk, os⟩ := s
    obtain ⟨look, fin⟩ := h
    have f1 := AutoSeq1.idx_int
    (wp_walk using wpAny_loadPart' look)
    repeat (first
      | (refine wpAny_ite_false (decide_eq_false (by rw [small]; exact Bool.false_ne_true)) ?_; (wp_walk using wpAny_loadPart' look))
      | (refine wpAny_ite_true (decide_eq_true rfl) ?_; (wp_walk using wpAny_loadPart' look)))
    exact ⟨_, rfl, fin⟩
def rRep0 (K : PySem.W.Frag) : R2 := fun x y H Q => ∃ (l : Addr) (k : Int), x = .ref l ∧ y = .int k ∧ SqT K H l [] ∧ 2 ≤ k ∧ k ≤ 1000 ∧ Q (.ref l) H
theorem op_rep0 {X : Cx} : OpR X (binaryOp .Mult) (rRep0 X.K) := by
  intro pins s σ H x y v u Q I rx ry given
  obtain ⟨l, k, rfl, rfl, hT, h1, h2, q⟩ := given
  cases rx
  obtain ⟨t, rfl⟩ := ry
  obtain ⟨_, r, ⟨⟨cl, dd, da, sl⟩, ho, hc, n, hd⟩, _⟩ := I.tuple hT
  cases r
  simp only at hc hd
  subst hc hd
  have small : (decide (k < -(2 ^ 63)) || decide (k ≥ 2 ^ 63)) = false := by
    rw [decide_eq_false (by omega), decide_eq_false (by omega), Bool.or_false]
  exact wpAny_binaryOp_repeat_ref (T := "tuple") (U := "int") (by decide) ⟨_, ho, rfl⟩ (fun s' => typeIs_int s' k t) noFill_tuple_mul F.fills_int_mul F.slot_int_rmul repeat_tuple F.slot_int_index.lookup
    (call_meets F.slot_int_rmul (typeIs_int s k t) F.entry_int_rmul (F.args_int_rmul_2 _ _) (int_rmul_tuple k t l #[] n dd sl)
      ⟨ho, rfl, ⟨_, ho, rfl⟩, call_meets F.slot_tuple_mul ⟨_, ho, rfl⟩ F.entry_tuple_mul (F.args_tuple_mul_2 _ _) (mul_of_empty l n dd sl k t small) ⟨ho, .ref l, H, I, rfl, q⟩⟩)
end
theorem rep_words (n : Nat) (ns : List Nat) : (List.replicate n ((iN ns).map V.int)).flatten = (iN (List.replicate n ns).flatten).map V.int := by
  induction n with
  | zero => rfl
  | succ n ih =>
    rw [List.replicate_succ, List.flatten_cons, ih, List.replicate_succ, List.flatten_cons]
    unfold iN
    rw [List.map_append, List.map_append]

/-! ### writers, situations, texts may be shown -/
theorem part_len {z : Str} : ∀ {r : Rc}, .s z ∈ r → z.length ≤ lets r
  | q :: r, h => by
    have e : lets (q :: r) = q.let + lets r := by
      unfold lets
      rw [List.map_cons, List.sum_cons]
    rw [e]
    rcases List.mem_cons.mp h with rfl | h
    · exact Nat.le_add_right _ _
    · have := part_len h
      omega
theorem flat_lt {fs : List Rc} {r : Rc} {n : Nat} (h : ∀ i ∈ fs.flatMap bufs, i < n) (hr : r ∈ fs) : ∀ i ∈ bufs r, i < n := fun i hi => h i (List.mem_flatMap.mpr ⟨r, hr, hi⟩)
theorem neat_rc {r : Rc} {n : Nat} (h : ROk r) (hb : ∀ i ∈ bufs r, i < n) (hn : n ≤ 1000) : Neat 1 205 r.d := by
  have e : NeatAll 0 (r.length * (40 + 1)) (r.map Pt.d) := neatAll_map fun q hq => by
    cases q with
    | s z =>
      have a := part_len hq
      have b := h.lt
      exact (neat_str (low_strOk (h.low _ hq))).le (Nat.le_refl _) (by omega)
    | b i =>
      have := hb i (List.mem_flatMap.mpr ⟨_, hq, List.mem_singleton.mpr rfl⟩)
      exact neat_int (by omega)
  have l := h.len
  exact (e.tup).le (Nat.le_refl _) (by omega)
theorem neat_rcE {r : Rc} {n : Nat} (h : ROkE r) (hb : ∀ i ∈ bufs r, i < n) (hn : n ≤ 1000) : Neat 1 246 r.d := by
  have e : NeatAll 0 (r.length * (40 + 1)) (r.map Pt.d) := neatAll_map fun q hq => by
    cases q with
    | s z =>
      have a := part_len hq
      have b := h.lt
      exact (neat_str (low_strOk (h.low _ hq))).le (Nat.le_refl _) (by omega)
    | b i =>
      have := hb i (List.mem_flatMap.mpr ⟨_, hq, List.mem_singleton.mpr rfl⟩)
      exact neat_int (by omega)
  have l := h.len
  exact (e.tup).le (Nat.le_refl _) (by omega)
theorem neat_ent {S B : Nat} {e : Option (Nat × List Rc)} (h : EntOk S B e) (hS : S ≤ 12) (hB : B ≤ 3) : Neat 3 700 (entD e) := by
  cases e with
  | none => exact neat_none.le (by decide) (by decide)
  | some x =>
    obtain ⟨t, fs⟩ := x
    obtain ⟨h1, h2⟩ := h t fs rfl
    have a : NeatAll 1 (fs.length * (205 + 1)) (fs.map Rc.d) := neatAll_map fun r hr => neat_rc (h2.each r hr) (flat_lt h2.lt hr) (by omega)
    have b : NeatAll 2 _ [.int (t : Int), fillsD fs] := NeatAll.cons ((neat_int (i := (t : Int)) (by omega)).le (by decide) (Nat.le_refl _)) (NeatAll.cons a.tup neatAll_nil)
    have l := h2.len
    exact b.tup.le (Nat.le_refl _) (by omega)
theorem neat_W {k S B : Nat} {W : Wr} (h : WOk k S B W) (hk : k ≤ 4) (hS : S ≤ 12) (hB : B ≤ 3) : Neat 6 40000 W.d := by
  have a : NeatAll 0 (W.begins.length * (2 + 1)) (W.begins.map .str) := neatAll_map fun z hz => (neat_str (low_strOk (h.b2 z hz).low)).le (Nat.le_refl _) (h.b2 z hz).len
  have b : NeatAll 4 (W.rules.length * (2804 + 1)) (W.rules.map rowD) := neatAll_map fun row hrow => by
    obtain ⟨r1, r2⟩ := h.r2 row hrow
    have c : NeatAll 3 (row.length * (700 + 1)) (row.map entD) := neatAll_map fun e he => neat_ent (r2 e he) hS hB
    exact c.tup.le (Nat.le_refl _) (by omega)
  have c : NeatAll 1 (W.ends.length * (246 + 1)) (W.ends.map endD) := neatAll_map fun e he => by
    cases e with
    | none => exact neat_none.le (by decide) (by decide)
    | some r =>
      have q := h.e2 _ he r rfl
      exact neat_rcE q.ok q.lt (by omega)
  have all : NeatAll 5 _ [.tuple (W.begins.map .str), .tuple (W.rules.map rowD), .tuple (W.ends.map endD)] :=
    NeatAll.cons (a.tup.le (by decide) (Nat.le_refl _)) (NeatAll.cons (b.tup.le (by decide) (Nat.le_refl _)) (NeatAll.cons (c.tup.le (by decide) (Nat.le_refl _)) neatAll_nil))
  have l1 := h.b1
  have l2 := h.r1
  have l3 := h.e1
  exact all.tup.le (Nat.le_refl _) (by omega)

/-! ### data that is a tuple -/
theorem Tp.tup_inv {H : Hp} {v : V} {ds : List PyData} (h : Tp H v (.tuple ds)) : ∃ a xs, v = .ref a ∧ H a = some (.tup xs) ∧ TpAll H xs ds := by
  cases h with
  | tup h hs => exact ⟨_, _, rfl, h, hs⟩
theorem Tp.int_inv {H : Hp} {v : V} {i : Int} (h : Tp H v (.int i)) : v = .int i := by
  cases h
  rfl
theorem Tp.str_inv {H : Hp} {v : V} {z : Str} (h : Tp H v (.str z)) : v = .str z := by
  cases h
  rfl
theorem Tp.non_inv {H : Hp} {v : V} (h : Tp H v .none) : v = .non := by
  cases h
  rfl
theorem tpAll_strs {H : Hp} : ∀ {ts : List Str} {xs : List V}, TpAll H xs (ts.map .str) → xs = ts.map V.str
  | [], _, .nil => rfl
  | z :: r, _, .cons h hs => by rw [h.str_inv, tpAll_strs hs, List.map_cons]
theorem tpAll_ints {H : Hp} : ∀ {ns : List Int} {xs : List V}, TpAll H xs (ns.map .int) → xs = ns.map V.int
  | [], _, .nil => rfl
  | z :: r, _, .cons h hs => by rw [h.int_inv, tpAll_ints hs, List.map_cons]
theorem tpAll_parts {H : Hp} : ∀ {r : Rc} {xs : List V}, TpAll H xs (r.map Pt.d) → xs = r.map Pt.v
  | [], _, .nil => rfl
  | .s z :: r, _, .cons h hs => by rw [h.str_inv, tpAll_parts hs, List.map_cons]; rfl
  | .b i :: r, _, .cons h hs => by rw [h.int_inv, tpAll_parts hs, List.map_cons]; rfl
theorem Same.put {H H' : Hp} {q : Addr} {o : HO} (s : Same H H') (hq : H q = none) : Same H (upd H' q o) := fun b u e => by
  rw [upd_ne (ne_of_none e hq)]
  exact s b u e
/-- one part of a row of data that is a map -/
theorem TpAll.at {H : Hp} {α : Type} {g : α → PyData} {vs : List V} {l : List α} {i : Nat} {x : α} (h : TpAll H vs (l.map g)) (e : l[i]? = some x) : ∃ v, vs[i]? = some v ∧ Tp H v (g x) :=
  h.get (by rw [List.getElem?_map, e]; rfl)
theorem take_map_more {α β : Type} {l : List α} {g : α → β} {i : Nat} {x : α} (h : l[i]? = some x) : (l.take (i + 1)).map g = (l.take i).map g ++ [g x] := by
  rw [List.take_add_one, h, List.map_append]
  rfl
theorem ix_tupK {X : Cx} (K : PySem.W.Frag) (h : X.K = K := by rfl) : IxR X (rIxT K) := by
  rw [← h]
  exact ix_tup
theorem ix_listK {X : Cx} (K : PySem.W.Frag) (h : X.K = K := by rfl) : IxR X (rIxL K) := by
  rw [← h]
  exact ix_list
theorem isiK {X : Cx} (K : PySem.W.Frag) (h : X.K = K := by rfl) : CallR X (.builtin "isinstance") (rIsi K) := by
  rw [← h]
  exact call_isi
theorem op_catAK {X : Cx} (K : PySem.W.Frag) (h : X.K = K := by rfl) : OpR X (binaryOp .Add) (rCatA K) := by
  rw [← h]
  exact op_catA
theorem iN_app (a : List Nat) (j : Nat) : (iN (a ++ [j])).map V.int = (iN a).map V.int ++ [.int j] := by
  unfold iN
  rw [List.map_append, List.map_append]
  rfl

/-! ### slices and sums of tuples as data; texts times a number; what may be a list or a tuple -/
theorem cut_take (xs : List V) (k : Nat) (h : k ≤ xs.length) : cutV xs none (some (k : Int)) = xs.take k := by
  unfold cutV
  rw [HT.sIx_none, HT.sIx_nat, List.drop_zero, Nat.sub_zero, Nat.min_eq_left h]
theorem cut_drop (xs : List V) (k : Nat) (h : k ≤ xs.length) : cutV xs (some (k : Int)) none = xs.drop k := by
  unfold cutV
  rw [HT.sIx_none, HT.sIx_nat, Nat.min_eq_left h]
  exact List.take_of_length_le (by rw [List.length_drop]; exact Nat.le_refl _)
theorem TpAll.take {H : Hp} : ∀ {vs : List V} {ds : List PyData} (k : Nat), TpAll H vs ds → TpAll H (vs.take k) (ds.take k)
  | _, _, 0, _ => .nil
  | _, _, _ + 1, .nil => .nil
  | _, _, k + 1, .cons h hs => .cons h (TpAll.take k hs)
theorem TpAll.drop {H : Hp} : ∀ {vs : List V} {ds : List PyData} (k : Nat), TpAll H vs ds → TpAll H (vs.drop k) (ds.drop k)
  | _, _, 0, h => h
  | _, _, _ + 1, .nil => .nil
  | _, _, k + 1, .cons _ hs => TpAll.drop k hs
/-- t[:k] -/
theorem sl_take {K : PySem.W.Frag} {H : Hp} {x : V} {ds : List PyData} {k : Nat} {Q : VK} (hx : Tp H x (.tuple ds)) (hk : k ≤ ds.length) (h : ∀ (v : V) H', Same H H' → Tp H' v (.tuple (ds.take k)) → Q v H') : rSlA K x none (some (k : Int)) H Q := by
  obtain ⟨a, xs, rfl, h1, h2⟩ := hx.tup_inv
  have hk' : k ≤ xs.length := by rw [h2.len]; exact hk
  refine ⟨a, xs, rfl, SqT.of h1, fun ⟨_, e⟩ => ?_, fun _ p hp => ?_⟩
  · rw [HT.sIx_nat, Nat.min_eq_left hk'] at e
    refine h _ _ (Same.refl H) (.tup h1 ?_)
    rw [List.take_of_length_le (by rw [← h2.len, e]; exact Nat.le_refl _)]
    exact h2
  · refine h _ _ (same_new hp) (.tup upd_same ?_)
    rw [cut_take xs k hk']
    exact (h2.take k).mono (tk_new hp)
/-- t[k:] -/
theorem sl_drop {K : PySem.W.Frag} {H : Hp} {x : V} {ds : List PyData} {k : Nat} {Q : VK} (hx : Tp H x (.tuple ds)) (hk : k ≤ ds.length) (h : ∀ (v : V) H', Same H H' → Tp H' v (.tuple (ds.drop k)) → Q v H') : rSlA K x (some (k : Int)) none H Q := by
  obtain ⟨a, xs, rfl, h1, h2⟩ := hx.tup_inv
  have hk' : k ≤ xs.length := by rw [h2.len]; exact hk
  refine ⟨a, xs, rfl, SqT.of h1, fun ⟨e, _⟩ => ?_, fun _ p hp => ?_⟩
  · rw [HT.sIx_nat, Nat.min_eq_left hk'] at e
    refine h _ _ (Same.refl H) (.tup h1 ?_)
    rw [e, List.drop_zero]
    exact h2
  · refine h _ _ (same_new hp) (.tup upd_same ?_)
    rw [cut_drop xs k hk']
    exact (h2.drop k).mono (tk_new hp)
/-- t + u -/
theorem cat_tp {K : PySem.W.Frag} {H : Hp} {x y : V} {ds es : List PyData} {Q : VK} (hx : Tp H x (.tuple ds)) (hy : Tp H y (.tuple es)) (n1 : ds.length ≤ 10000) (n2 : es.length ≤ 10000) (h : ∀ (v : V) H', Same H H' → Tp H' v (.tuple (ds ++ es)) → Q v H') : rCatA K x y H Q := by
  obtain ⟨a, xs, rfl, h1, h2⟩ := hx.tup_inv
  obtain ⟨b, ys, rfl, g1, g2⟩ := hy.tup_inv
  have e1 := h2.len
  have e2 := g2.len
  refine ⟨a, b, xs, ys, rfl, rfl, SqT.of h1, SqT.of g1, Nat.le_trans (show xs.length + ys.length ≤ 20000 by omega) (by decide), fun z => ?_, fun _ z => ?_, fun _ _ p hp => ?_⟩
  · subst z
    cases h2
    exact h _ _ (Same.refl H) (.tup g1 g2)
  · subst z
    cases g2
    refine h _ _ (Same.refl H) (.tup h1 ?_)
    rw [List.append_nil]
    exact h2
  · exact h _ _ (same_new hp) (.tup upd_same ((h2.app g2).mono (tk_new hp)))
theorem sl_tupAK {X : Cx} (K : PySem.W.Frag) (h : X.K = K := by rfl) : SlR X (rSlA K) := by
  rw [← h]
  exact sl_tupA
/-- one sign, so often -/
def rowOf (c : Nat) (n : Nat) : Str := ⟨(List.replicate n c).toArray⟩
theorem rowOf_len (c n : Nat) : (rowOf c n).length = n := by
  show (List.replicate n c).toArray.size = n
  rw [List.size_toArray, List.length_replicate]
theorem rowOf_low {c n : Nat} (h : 97 ≤ c ∧ c ≤ 122) : ∀ z ∈ (rowOf c n).cps.toList, 97 ≤ z ∧ z ≤ 122 := by
  intro z hz
  have hz' : z ∈ List.replicate n c := hz
  rw [List.eq_of_mem_replicate hz']
  exact h
theorem rep_sign (c : Nat) : ∀ (n : Nat) (acc : Array Nat), (List.replicate n #[c]).foldl (· ++ ·) acc = acc ++ (List.replicate n c).toArray
  | 0, acc => by
    show acc = acc ++ #[]
    rw [Array.append_empty]
  | n + 1, acc => by
    rw [List.replicate_succ, List.foldl_cons, rep_sign c n]
    refine Array.toList_inj.mp ?_
    rw [Array.toList_append, Array.toList_append, Array.toList_append, List.replicate_succ, List.append_assoc]
    rfl
def rMulS : R2 := fun x y H Q => ∃ (c : Nat) (n : Nat), x = .str ⟨#[c]⟩ ∧ y = .int n ∧ 2 ≤ n ∧ n ≤ 100000 ∧ Q (.str (rowOf c n)) H
section
open PySem.Spec PyProof.Rows
theorem op_mulS {X : Cx} : OpR X (binaryOp .Mult) rMulS := by
  intro pins s σ H x y v u Q I rx ry given
  obtain ⟨c, n, rfl, rfl, n2, big, q⟩ := given
  obtain ⟨t, rfl⟩ := rx
  obtain ⟨t2, rfl⟩ := ry
  have one : ((⟨#[c]⟩ : Str).length) = 1 := rfl
  refine PySem.P.mul_str ?_ (fun _ _ => ?_) (fun _ _ => ?_) ?_
  · rw [decide_eq_false (by omega), decide_eq_false (by omega)]
    rfl
  · rw [one]
    have h1 : (1 : Int) ≤ (2 ^ 63 - 1) / (n : Int) := (Int.le_ediv_iff_mul_le (by omega)).mpr (by omega)
    exact Int.not_lt.mpr h1
  · rw [one, Nat.one_mul, Int.toNat_natCast]
    unfold Builtin.Str.tooLong
    exact decide_eq_false (Nat.not_lt.mpr (Nat.le_trans big (by decide)))
  · have e1 : ¬ (n : Int) < 1 := by omega
    have e2 : ((n : Int) == 1 || (⟨#[c]⟩ : Str).length == 0) = false := by
      rw [one, Bool.or_eq_false_iff]
      exact ⟨beq_eq_false_iff_ne.mpr (by omega), rfl⟩
    rw [if_neg e1, if_neg (by rw [e2]; exact Bool.false_ne_true), Int.toNat_natCast]
    have e3 : (⟨(List.replicate n (⟨#[c]⟩ : Str).cps).foldl (· ++ ·) #[]⟩ : Str) = rowOf c n := by
      refine Str.ext' ?_
      show (List.replicate n #[c]).foldl (· ++ ·) #[] = (List.replicate n c).toArray
      rw [rep_sign, Array.empty_append]
    rw [e3]
    refine ⟨?_, .str _, H, I.tok _, ⟨_, rfl⟩, q⟩
    rw [rowOf_len]
    exact Nat.le_trans big (by decide)
/-- a walk over what is a list or a tuple -/
theorem pi_any {X : Cx} {tg l : Expr} {tl : TE} (h : PE X l tl) : PI X tg l (fun σ H R => iList X.K tl σ H R ∨ iTup X.K tl σ H R) :=
  ⟨fun pins s σ H R I q => q.elim (fun z => (pi_list (tg := tg) h).run pins s σ H R I z) (fun z => (pi_tup (tg := tg) h).run pins s σ H R I z)⟩
end
/-- a walk over a tuple, whatever is done with the items -/
theorem walk_tup {K : PySem.W.Frag} {a : Addr} {xs : List V} {body : V → Hp → (Hp → Prop) → Prop} {H0 : Hp} {Qd : Hp → Prop} (Pv : Nat → Hp → Prop) (h0 : Pv 0 H0) (hl : ∀ i H, i ≤ xs.length → Pv i H → SqT K H a xs)
    (hs : ∀ i x H, xs[i]? = some x → Pv i H → body x H (Pv (i + 1))) (hd : ∀ H, Pv xs.length H → Qd H) :
    ∃ W : Nat → Nat → Hp → Prop, (∃ m, W 0 m H0) ∧ ∀ i m H, W i m H → ((Itt K a).stop i H ∧ Qd H) ∨ ((Itt K a).go i H ∧ ∃ Nx : Hp → Prop, (∀ H', Nx H' → ∃ m', m' < m ∧ W (i + 1) m' H') ∧ ∀ x H', (Itt K a).yld i H x H' → body x H' Nx) := by
  refine ⟨fun i m H => m = xs.length - i ∧ i ≤ xs.length ∧ Pv i H, ⟨xs.length, rfl, Nat.zero_le _, h0⟩, fun i m H ⟨em, hi, p⟩ => ?_⟩
  have at_a := hl i H hi p
  rcases Nat.lt_or_eq_of_le hi with lt | eq
  · refine .inr ⟨⟨xs, xs[i], at_a, List.getElem?_eq_getElem lt⟩, Pv (i + 1), fun H' p' => ⟨xs.length - (i + 1), by omega, rfl, lt, p'⟩, fun x H' y => ?_⟩
    obtain ⟨e, y⟩ := y
    rw [e]
    exact hs i x H (y xs at_a) p
  · refine .inl ⟨⟨xs, at_a, Nat.le_of_eq eq.symm⟩, hd H ?_⟩
    rw [← eq]
    exact p

/-! ### small writers -/
/-- how many letters the pieces of a recipe have, piece by piece; of recipes together -/
def pieces (r : Rc) : List Nat := r.filterMap fun q => match q with
  | .s z => some z.length
  | .b _ => none
def letF (fs : List Rc) : Nat := (fs.map lets).sum
theorem pieces_cons (q : Pt) (r : Rc) : pieces (q :: r) = pieces [q] ++ pieces r := by
  unfold pieces
  cases q <;> rfl
theorem pieces_sum : ∀ r : Rc, (pieces r).sum = lets r
  | [] => rfl
  | .s z :: r => by
    have e : lets (.s z :: r) = z.length + lets r := by
      unfold lets
      rw [List.map_cons, List.sum_cons]
      rfl
    rw [pieces_cons, List.sum_append, pieces_sum r, e]
    show (z.length + 0) + lets r = _
    omega
  | .b i :: r => by
    have e : lets (.b i :: r) = lets r := by
      unfold lets
      rw [List.map_cons, List.sum_cons]
      exact Nat.zero_add _
    rw [pieces_cons, List.sum_append, pieces_sum r, e]
    exact Nat.zero_add _
theorem pieces_flat : ∀ fs : List Rc, (fs.flatMap pieces).sum = letF fs
  | [] => rfl
  | r :: fs => by
    have e : letF (r :: fs) = lets r + letF fs := by
      unfold letF
      rw [List.map_cons, List.sum_cons]
    rw [List.flatMap_cons, List.sum_append, pieces_flat fs, pieces_sum, e]
theorem iN_sum (l : List Nat) : (iN l).sum = (l.sum : Nat) := by
  induction l with
  | nil => rfl
  | cons a r ih =>
    have e : iN (a :: r) = (a : Int) :: iN r := rfl
    rw [e, List.sum_cons, ih, List.sum_cons]
    omega
theorem pieces_take {r : Rc} {j : Nat} {q : Pt} (h : r[j]? = some q) : pieces (r.take (j + 1)) = pieces (r.take j) ++ pieces [q] := by
  unfold pieces
  rw [List.take_add_one, h, List.filterMap_append]
  rfl
theorem pieces_le : ∀ r : Rc, (pieces r).length ≤ r.length := fun r => List.length_filterMap_le _ _
theorem flat_take {α β : Type} {g : α → List β} {l : List α} {i : Nat} {x : α} (h : l[i]? = some x) : (l.take (i + 1)).flatMap g = (l.take i).flatMap g ++ g x := by
  rw [List.take_add_one, h, List.flatMap_append]
  show _ ++ List.flatMap g [x] = _
  rw [List.flatMap_cons, List.flatMap_nil, List.append_nil]
theorem flat_len {α β : Type} {g : α → List β} {n : Nat} : ∀ l : List α, (∀ x ∈ l, (g x).length ≤ n) → (l.flatMap g).length ≤ l.length * n
  | [], _ => Nat.zero_le _
  | x :: r, h => by
    have a := h x List.mem_cons_self
    have b := flat_len r fun y hy => h y (List.mem_cons_of_mem _ hy)
    rw [List.flatMap_cons, List.length_append, List.length_cons, Nat.succ_mul]
    omega
/-- a recipe, an entry, a writer of bounded size -/
structure RSz (r : Rc) : Prop where
  lt : lets r ≤ 300
  low : lowR r
  len : r.length ≤ 10
  b : ∀ i ∈ bufs r, i < 100
structure FSz (fs : List Rc) : Prop where
  len : fs.length ≤ 10
  each : ∀ r ∈ fs, RSz r
def ESz (e : Option (Nat × List Rc)) : Prop := ∀ t fs, e = some (t, fs) → t < 100 ∧ FSz fs
structure WSz (W : Wr) : Prop where
  b1 : 1 ≤ W.begins.length
  b2 : W.begins.length ≤ 10
  b3 : ∀ z ∈ W.begins, Tx 300 z
  r1 : 1 ≤ W.rules.length
  r2 : W.rules.length ≤ 20
  r3 : ∀ row ∈ W.rules, row.length ≤ 10 ∧ ∀ e ∈ row, ESz e
  e1 : W.ends.length ≤ 20
  e2 : ∀ e ∈ W.ends, ∀ q, e = some q → RSz q
/-- letters at all places -/
def entL : Option (Nat × List Rc) → List Nat
  | none => []
  | some (_, fs) => [letF fs]
def endL : Option Rc → List Nat
  | none => []
  | some r => [letF [r]]
def placesW (W : Wr) : List Nat := W.begins.map (·.length) ++ W.rules.flatMap (fun row => row.flatMap entL) ++ W.ends.flatMap endL
def smallW (W : Wr) : Bool := !(decide (W.rules.length > 4) || decide ((W.rules.headD []).length > 3) || decide (W.begins.length > 2)) && (placesW W).all fun n => decide (n ≤ 24)

def spLetters : Sp := fun vs H Q _ => ∃ (a : V) (fs : List Rc), vs = [a] ∧ Tp H a (fillsD fs) ∧ FSz fs ∧ ∀ H', Same H H' → Q (.int (letF fs : Nat)) H'
def spMost : Sp := fun vs H Q _ => ∃ (a : V) (W : Wr), vs = [a] ∧ Tp H a W.d ∧ WSz W ∧ ∀ (m : Nat) H', Same H H' → m ∈ placesW W → (∀ n ∈ placesW W, n ≤ m) → Q (.int m) H'
def spSmall : Sp := fun vs H Q _ => ∃ (a : V) (W : Wr), vs = [a] ∧ Tp H a W.d ∧ WSz W ∧ ∀ H', Same H H' → Q (.bl (smallW W)) H'
structure BN3 (mg : Str → Option Value) : Prop extends BN2 mg where
  sum : mg "sum" = none
  all : mg "all" = none
  max : mg "max" = none
theorem sc_lin : FnScope ["recipes", "recipe", "part"] ["recipes"] (fnScope st_letters_in_) := fnScope_by (by decide +kernel)
theorem sc_places : FnScope ["writer", "begins", "rules", "ends", "at_begins", "at_entries", "at_ends", "text", "row", "entry", "end"] ["writer"] (fnScope st_most_letters_) := fnScope_by (by decide +kernel)
theorem sc_small : FnScope ["writer", "begins", "rules", "_"] ["writer"] (fnScope st_is_small_) := fnScope_by (by decide +kernel)
theorem piece_room {r : Rc} (h : RSz r) {z : Str} (hz : .s z ∈ r) : z.length ≤ sizeLine := Nat.le_trans (Nat.le_trans (part_len hz) h.lt) (by decide)
theorem lt_line {n : Nat} (h : n ≤ 10000) : n < sizeLine := Nat.lt_of_le_of_lt h (by decide)
section
variable {P : Program} {w : World} {K : PySem.W.Frag} {mg : Str → Option Value} {base : Heap} {f : Addr} {fd : FuncData}
theorem cal_lin (F : C8.Def K mg "letters_in" st_letters_in_ f fd) (b : Binds K fd ["recipes"] []) (B : BN3 mg) : Cal P w K mg base 1 "letters_in" spLetters [] := by
  refine cal0 F b .nil sc_lin (fun vs H Q E h => ?_) (fun cdv A outer s H vs Q E hr h => ?_)
  · obtain ⟨a, fs, rfl, _⟩ := h
    rfl
  · obtain ⟨a, fs, rfl, ha, hf, k⟩ := h
    obtain ⟨a, xs, rfl, h1, h2⟩ := ha.tup_inv
    refine ⟨_, pss_one (ps_ret (pe_callB (cr_sum rfl) (by rfl) B.sum (by decide +kernel) (pa_cons (pe_lc2 (own := [("recipe", 1), ("part", 2)]) (vs1 := [2]) (g := gName 1) (tt := tYes) (g1 := gName 2) (tt1 := tB (tCB (rIsi K) (tCons (tVar 2) (tCons (tC (.ty "str")) tNil)))) (wi1 := iTup K (tVar 1)) (by rfl) sc_lin.nd (pi_tup (pv 0))
      (blkOk_by (own := [("recipe", 1), ("part", 2)]) (N := ["recipes", "recipe", "part"]) (sc := fnScope st_letters_in_) (by decide +kernel)) (by decide) (fun _ _ _ _ _ => pg_name (i := 1) sc_lin.nd rfl (Or.inl rfl)) (fun _ _ _ _ _ => pts_nil)
      (fun _ _ _ _ _ => pi_tup (pv 1)) (fun _ _ _ _ _ => pg_name (i := 2) sc_lin.nd rfl (Or.inl rfl))
      (fun _ _ _ _ _ => pts_one (pt_val (pe_callB (isiK K) (by rfl) B.isi (by decide +kernel) (pa_cons (pv 2) (pa_cons (pe_bltn (v := .ty "str") (by rfl) B.str (by decide +kernel) rfl) pa_nil)))))
      (fun _ _ _ _ _ => pe_callB call_len_str (by rfl) B.len PySem.boot_len (pa_cons (pv 2) pa_nil))) pa_nil))), ?_⟩
    have lenx : xs.length = fs.length := by rw [h2.len, List.length_map]
    refine ⟨_, rfl, a, rfl, ⟨_, SqT.of h1⟩, fun D hD => ?_⟩
    have short : ∀ i, ((fs.take i).flatMap pieces).length ≤ 100 := fun i => by
      have e := flat_len (g := pieces) (n := 10) (fs.take i) fun r hr => Nat.le_trans (pieces_le r) (hf.each r (List.mem_of_mem_take hr)).len
      have l := hf.len
      have t : (fs.take i).length ≤ fs.length := by rw [List.length_take]; omega
      omega
    refine walk_tup (K := K) (a := a) (xs := xs) (fun i H' => Same H H' ∧ H' D = some (.lst ((iN ((fs.take i).flatMap pieces)).map V.int))) ⟨same_new hD, upd_same⟩ (fun i H' _ h => SqT.of (h.1 _ _ h1)) ?_ ?_
    · rintro i x H1 hi ⟨s1, hL⟩
      have hlt : i < fs.length := by
        have q := (List.getElem?_eq_some_iff.mp hi).1
        omega
      have hg := List.getElem?_eq_getElem hlt
      obtain ⟨v, hv, tv⟩ := h2.at hg
      rw [hi] at hv
      cases hv
      have rsz := hf.each _ (List.getElem_mem hlt)
      obtain ⟨ra, rx, rfl, r1, r2⟩ := tv.tup_inv
      obtain rfl := tpAll_parts r2
      refine ⟨rfl, ?_⟩
      refine ⟨_, rfl, ra, rfl, ⟨_, SqT.of (s1 _ _ r1)⟩, ?_⟩
      refine walk_tup (K := K) (a := ra) (xs := fs[i].map Pt.v) (fun j H' => Same H H' ∧ H' D = some (.lst ((iN ((fs.take i).flatMap pieces ++ pieces (fs[i].take j))).map V.int))) ⟨s1, ?_⟩ (fun j H' _ h => SqT.of (h.1 _ _ r1)) ?_ ?_
      · rw [hL]
        show _ = some (HO.lst ((iN ((fs.take i).flatMap pieces ++ [])).map V.int))
        rw [List.append_nil]
      · rintro j y H2 hj ⟨s2, hL2⟩
        obtain ⟨q, hq, rfl⟩ : ∃ q, fs[i][j]? = some q ∧ y = Pt.v q := by
          rw [List.getElem?_map] at hj
          cases e : fs[i][j]? with
          | none =>
            rw [e] at hj
            cases hj
          | some u =>
            rw [e] at hj
            exact ⟨u, rfl, (Option.some.inj hj).symm⟩
        refine ⟨rfl, ?_⟩
        obtain ⟨ty, tb, t1, t2, t3, t4⟩ := isi_pt (K := K) (H := H2) q
        refine ⟨_, rfl, q.v, _, ty, _, tb, rfl, .ty _, t1, t2, _, rfl, ?_⟩
        cases tb with
        | true =>
          obtain ⟨z, rfl⟩ := t3 rfl
          refine iteT ⟨_, rfl, z, rfl, piece_room rsz (List.mem_of_getElem? hq), _, hL2, ?_, Same.put s2 hD, ?_⟩
          · unfold iN
            rw [List.length_map, List.length_map, List.length_append]
            have a1 := short i
            have a2 := pieces_le (fs[i].take j)
            have a3 := rsz.len
            have a4 : (fs[i].take j).length ≤ fs[i].length := by rw [List.length_take]; omega
            exact lt_line (by omega)
          · rw [upd_same, pieces_take hq, ← List.append_assoc]
            have e : pieces [Pt.s z] = [z.length] := rfl
            rw [e, iN_app]
        | false =>
          obtain ⟨m, rfl⟩ := t4 rfl
          refine iteF ⟨s2, ?_⟩
          rw [hL2, pieces_take hq]
          have e : pieces [Pt.b m] = [] := rfl
          rw [e, List.append_nil]
      · rintro H2 ⟨s2, hL2⟩
        refine ⟨s2, ?_⟩
        rw [hL2, List.length_map, List.take_length, flat_take hg]
    · rintro H1 ⟨s1, hL⟩
      rw [lenx, List.take_length] at hL
      refine ⟨D, _, rfl, SqL.of hL, ?_⟩
      rw [iN_sum, pieces_flat]
      exact k _ s1
end

section
variable {P : Program} {w : World} {K : PySem.W.Frag} {mg : Str → Option Value} {base : Heap} {f : Addr} {fd : FuncData}
theorem placesW_len {W : Wr} (h : WSz W) : W.begins.length ≤ 10 ∧ (∀ i, ((W.rules.take i).flatMap fun row => row.flatMap entL).length ≤ 200) ∧ (∀ row ∈ W.rules, ∀ j, ((row.take j).flatMap entL).length ≤ 10) ∧ ∀ i, ((W.ends.take i).flatMap endL).length ≤ 20 := by
  have one : ∀ e, (entL e).length ≤ 1 := fun e => by cases e <;> simp [entL]
  have one' : ∀ e, (endL e).length ≤ 1 := fun e => by cases e <;> simp [endL]
  have rows : ∀ row ∈ W.rules, ∀ j, ((row.take j).flatMap entL).length ≤ 10 := fun row hrow j => by
    have a := flat_len (g := entL) (n := 1) (row.take j) fun e _ => one e
    have b := (h.r3 row hrow).1
    rw [List.length_take] at a
    omega
  refine ⟨h.b2, fun i => ?_, rows, fun i => ?_⟩
  · have a := flat_len (g := fun row : List (Option (Nat × List Rc)) => row.flatMap entL) (n := 10) (W.rules.take i) fun row hrow => by
      have b := rows row (List.mem_of_mem_take hrow) row.length
      rw [List.take_length] at b
      exact b
    have b := h.r2
    rw [List.length_take] at a
    omega
  · have a := flat_len (g := endL) (n := 1) (W.ends.take i) fun e _ => one' e
    have b := h.e1
    rw [List.length_take] at a
    omega
theorem iN_cat (a b : List Nat) : (iN (a ++ b)).map V.int = (iN a).map V.int ++ (iN b).map V.int := by
  unfold iN
  rw [List.map_append, List.map_append]
theorem iN_len (a : List Nat) : ((iN a).map V.int).length = a.length := by
  unfold iN
  rw [List.length_map, List.length_map]
theorem cal_most (F : C8.Def K mg "most_letters" st_most_letters_ f fd) (b : Binds K fd ["writer"] []) (B : BN3 mg) (Cl : Cal P w K mg base 1 "letters_in" spLetters []) : Cal P w K mg base 2 "most_letters" spMost [] := by
  refine cal0 F b .nil sc_places (fun vs H Q E h => ?_) (fun cdv A outer s H vs Q E hr h => ?_)
  · obtain ⟨a, W, rfl, _⟩ := h
    rfl
  · obtain ⟨a, W, rfl, ha, hW, k⟩ := h
    obtain ⟨a, xs, rfl, ha1, ha2⟩ := ha.tup_inv
    cases ha2 with
    | @cons vb x2 _ _ tb h2 =>
    cases h2 with
    | @cons vr x3 _ _ tr h3 =>
    cases h3 with
    | @cons ve x4 _ _ te h4 =>
    cases h4
    obtain ⟨ba, bx, rfl, tb1, tb2⟩ := tb.tup_inv
    obtain rfl := tpAll_strs tb2
    obtain ⟨ra, rx, rfl, tr1, tr2⟩ := tr.tup_inv
    obtain ⟨ea, ex, rfl, te1, te2⟩ := te.tup_inv
    obtain ⟨n1, n2, n3, n4⟩ := placesW_len hW
    refine ⟨_, pss_cons (ps_asg (pv 0) (pg_tup rfl (pgs_cons (pg_name (i := 1) sc_places.nd rfl (Or.inl rfl)) (pgs_cons (pg_name (i := 2) sc_places.nd rfl (Or.inl rfl)) (pgs_cons (pg_name (i := 3) sc_places.nd rfl (Or.inl rfl)) pgs_nil)))))
      (pss_cons (ps_setLc (i := 4) (own := [("text", 7)]) (g := gName 7) (tt := tYes) (by rfl) sc_places.nd rfl rfl (sw_true rfl rfl rfl (by decide +kernel)) (pi_tup (pv 1)) (blkOk_by (own := [("text", 7)]) (N := ["writer", "begins", "rules", "ends", "at_begins", "at_entries", "at_ends", "text", "row", "entry", "end"]) (sc := fnScope st_most_letters_) (by decide +kernel))
        (fun _ _ _ _ _ => pg_name (i := 7) sc_places.nd rfl (Or.inl rfl)) (fun _ _ _ _ _ => pts_nil) (fun _ _ _ _ _ => pe_callB call_len_str (by rfl) B.len PySem.boot_len (pa_cons (pv 7) pa_nil)))
      (pss_cons (ps_setLc2 (i := 5) (own := [("row", 8), ("entry", 9)]) (vs1 := [9]) (g := gName 8) (tt := tYes) (g1 := gName 9) (wi1 := iTup K (tVar 8)) (tt1 := tB (tNotN (tVar 9))) (te := tCall spLetters [] C8.E0 (tCons (tOp (rIxT K) (tVar 9) (tC (.int 1))) tNil)) (by rfl) sc_places.nd rfl rfl (sw_true rfl rfl rfl (by decide +kernel)) (pi_tup (pv 2))
        (blkOk_by (own := [("row", 8), ("entry", 9)]) (N := ["writer", "begins", "rules", "ends", "at_begins", "at_entries", "at_ends", "text", "row", "entry", "end"]) (sc := fnScope st_most_letters_) (by decide +kernel)) (by decide) (fun _ _ _ _ _ => pg_name (i := 8) sc_places.nd rfl (Or.inl rfl)) (fun _ _ _ _ _ => pts_nil)
        (fun _ _ _ _ _ => pi_tup (pv 8)) (fun _ _ _ _ _ => pg_name (i := 9) sc_places.nd rfl (Or.inl rfl)) (fun _ _ _ _ _ => pts_one (pt_cmp (pc_notN (pv 9))))
        (fun _ _ _ _ _ => pe_c Cl hr (by decide) (by rfl) (pa_cons (pe_ix (ix_tupK K) (pv 9) pe_int (fun _ _ => rfl)) pa_nil)))
      (pss_cons (ps_setLc (i := 6) (own := [("end", 10)]) (g := gName 10) (tt := tB (tNotN (tVar 10))) (by rfl) sc_places.nd rfl rfl (sw_true rfl rfl rfl (by decide +kernel)) (pi_tup (pv 3)) (blkOk_by (own := [("end", 10)]) (N := ["writer", "begins", "rules", "ends", "at_begins", "at_entries", "at_ends", "text", "row", "entry", "end"]) (sc := fnScope st_most_letters_) (by decide +kernel))
        (fun _ _ _ _ _ => pg_name (i := 10) sc_places.nd rfl (Or.inl rfl)) (fun _ _ _ _ _ => pts_one (pt_cmp (pc_notN (pv 10)))) (fun _ _ _ _ _ => pe_c Cl hr (by decide) (by rfl) (pa_cons (pe_tup (pa_cons (pv 10) pa_nil)) pa_nil)))
      (pss_one (ps_ret (pe_callB (cr_max rfl) (by rfl) B.max (by decide +kernel) (pa_cons (pe_op op_cat (pe_op op_cat (pv 4) (pv 5)) (pv 6)) pa_nil))))))), ?_⟩
    refine ⟨_, rfl, a, _, rfl, SqT.of ha1, rfl, _, _, rfl, _, _, rfl, _, _, rfl, rfl, ?_⟩
    -- the begins
    refine ⟨_, rfl, ba, rfl, ⟨_, SqT.of tb1⟩, fun D1 hD1 => ?_⟩
    refine lc_tup (K := K) (a := ba) (xs := W.begins.map V.str) (fun i H' => Same H H' ∧ H' D1 = some (.lst ((iN ((W.begins.take i).map (·.length))).map V.int))) ⟨same_new hD1, upd_same⟩ (fun i H' _ h => SqT.of (h.1 _ _ tb1)) ?_ ?_
    · rintro i x H1 hi ⟨s1, hL⟩
      obtain ⟨z, hz, rfl⟩ : ∃ z, W.begins[i]? = some z ∧ x = V.str z := by
        rw [List.getElem?_map] at hi
        cases e : W.begins[i]? with
        | none =>
          rw [e] at hi
          cases hi
        | some u =>
          rw [e] at hi
          exact ⟨u, rfl, (Option.some.inj hi).symm⟩
      have zl := (hW.b3 z (List.mem_of_getElem? hz)).len
      refine ⟨rfl, _, rfl, z, rfl, Nat.le_trans zl (by decide), _, hL, ?_, Same.put s1 hD1, ?_⟩
      · rw [iN_len, List.length_map, List.length_take]
        exact lt_line (by omega)
      · rw [upd_same, take_map_more hz, iN_app]
    rintro H1 ⟨s1, hL1⟩
    rw [List.length_map, List.take_length] at hL1
    -- the entries
    refine ⟨_, rfl, ra, rfl, ⟨_, SqT.of (s1 _ _ tr1)⟩, fun D2 hD2 => ?_⟩
    have D20 : H D2 = none := Same.free s1 hD2
    have n12 : D1 ≠ D2 := ne_of_none hL1 hD2
    have lenr : rx.length = W.rules.length := by rw [tr2.len, List.length_map]
    refine walk_tup (K := K) (a := ra) (xs := rx) (fun i H' => Same H1 H' ∧ H' D2 = some (.lst ((iN ((W.rules.take i).flatMap fun row => row.flatMap entL)).map V.int))) ⟨same_new hD2, upd_same⟩ (fun i H' _ h => SqT.of (h.1 _ _ (s1 _ _ tr1))) ?_ ?_
    · rintro i x H2 hi ⟨s2, hL2⟩
      have hlt : i < W.rules.length := by
        have q := (List.getElem?_eq_some_iff.mp hi).1
        omega
      have hg := List.getElem?_eq_getElem hlt
      obtain ⟨v, hv, tv⟩ := tr2.at hg
      rw [hi] at hv
      cases hv
      have mem := List.getElem_mem hlt
      have rsz := hW.r3 _ mem
      obtain ⟨wa, wx, rfl, w1, w2⟩ := tv.tup_inv
      have lenw : wx.length = W.rules[i].length := by rw [w2.len, List.length_map]
      have s12 := Same.trans s1 s2
      refine ⟨rfl, ?_⟩
      refine ⟨_, rfl, wa, rfl, ⟨_, SqT.of (s12 _ _ w1)⟩, ?_⟩
      refine walk_tup (K := K) (a := wa) (xs := wx) (fun j H' => Same H1 H' ∧ H' D2 = some (.lst ((iN (((W.rules.take i).flatMap fun row => row.flatMap entL) ++ (W.rules[i].take j).flatMap entL)).map V.int))) ⟨s2, ?_⟩ (fun j H' _ h => SqT.of ((Same.trans s1 h.1) _ _ w1)) ?_ ?_
      · rw [hL2]
        show _ = some (HO.lst ((iN (((W.rules.take i).flatMap fun row => row.flatMap entL) ++ [])).map V.int))
        rw [List.append_nil]
      · rintro j y H3 hj ⟨s3, hL3⟩
        have jlt : j < W.rules[i].length := by
          have q := (List.getElem?_eq_some_iff.mp hj).1
          omega
        have hgj := List.getElem?_eq_getElem jlt
        obtain ⟨u, hu, tu⟩ := w2.at hgj
        rw [hj] at hu
        cases hu
        have esz := rsz.2 _ (List.getElem_mem jlt)
        refine ⟨rfl, ?_⟩
        refine ⟨_, rfl, _, rfl, ?_⟩
        generalize hE : W.rules[i][j] = en at *
        cases en with
        | none =>
          obtain rfl := tu.non_inv
          refine iteF' (by rw [decide_eq_true rfl]; rfl) ⟨s3, ?_⟩
          rw [hL3, flat_take hgj, ← List.append_assoc]
          show _ = some (HO.lst ((iN (_ ++ [])).map V.int))
          rw [List.append_nil]
        | some e =>
          obtain ⟨tg, fs⟩ := e
          obtain ⟨_, fsz⟩ := esz tg fs rfl
          obtain ⟨ea', es, rfl, y7, y8⟩ := tu.tup_inv
          cases y8 with
          | @cons vtg x9 _ _ z1 z2 =>
          cases z2 with
          | @cons vfs x10 _ _ z3 z4 =>
          cases z4
          have s13 := Same.trans s1 s3
          refine iteT' (by rw [decide_eq_false (by intro z; cases z)]; rfl) ?_
          refine ⟨_, rfl, ea', _, _, _, rfl, rfl, SqT.of (s13 _ _ y7), atI_nat (j := 1) rfl, vfs, fs, rfl, z3.mono (Same.tk s13), fsz, fun H4 s4 => ?_⟩
          refine ⟨_, s4 _ _ hL3, ?_, Same.put (Same.trans s3 s4) hD2, ?_⟩
          · rw [iN_len, List.length_append]
            have a1 := n2 i
            have a2 := n3 _ mem j
            exact lt_line (by omega)
          · rw [upd_same, flat_take hgj, ← List.append_assoc]
            show _ = some (HO.lst ((iN (_ ++ [letF fs])).map V.int))
            rw [iN_app]
      · rintro H3 ⟨s3, hL3⟩
        refine ⟨s3, ?_⟩
        rw [hL3, lenw, List.take_length, flat_take hg]
    rintro H2 ⟨s2, hL2⟩
    rw [lenr, List.take_length] at hL2
    have s12 := Same.trans s1 s2
    -- the ends
    refine ⟨_, rfl, ea, rfl, ⟨_, SqT.of (s12 _ _ te1)⟩, fun D3 hD3 => ?_⟩
    have lene : ex.length = W.ends.length := by rw [te2.len, List.length_map]
    refine lc_tup (K := K) (a := ea) (xs := ex) (fun i H' => Same H2 H' ∧ H' D3 = some (.lst ((iN ((W.ends.take i).flatMap endL)).map V.int))) ⟨same_new hD3, upd_same⟩ (fun i H' _ h => SqT.of (h.1 _ _ (s12 _ _ te1))) ?_ ?_
    · rintro i x H3 hi ⟨s3, hL3⟩
      have hlt : i < W.ends.length := by
        have q := (List.getElem?_eq_some_iff.mp hi).1
        omega
      have hg := List.getElem?_eq_getElem hlt
      obtain ⟨v, hv, tv⟩ := te2.at hg
      rw [hi] at hv
      cases hv
      have esz := hW.e2 _ (List.getElem_mem hlt)
      generalize hE : W.ends[i] = en at *
      refine ⟨rfl, ?_⟩
      refine ⟨_, rfl, _, rfl, ?_⟩
      cases en with
      | none =>
        obtain rfl := tv.non_inv
        refine iteF' (by rw [decide_eq_true rfl]; rfl) ⟨s3, ?_⟩
        rw [hL3, flat_take hg]
        show _ = some (HO.lst ((iN (_ ++ [])).map V.int))
        rw [List.append_nil]
      | some r =>
        have rsz := esz r rfl
        have s13 := Same.trans s12 s3
        have nv : x ≠ .non := by
          obtain ⟨q1, q2, rfl, _⟩ := tv.tup_inv
          intro z
          cases z
        refine iteT' (by rw [decide_eq_false nv]; rfl) ?_
        refine ⟨_, rfl, (by show 1 ≤ sizeLine; decide), fun u hu => ?_⟩
        have s3u := Same.trans s3 (same_new (o := .tup [x]) hu)
        refine ⟨.ref u, [r], rfl, .tup upd_same (.cons (tv.mono (Same.tk (Same.trans s12 s3u))) .nil), ⟨(by show 1 ≤ 10; decide), fun q hq => by rw [List.mem_singleton.mp hq]; exact rsz⟩, fun H4 s4 => ?_⟩
        refine ⟨_, (Same.trans (same_new hu) s4) _ _ hL3, ?_, Same.put (Same.trans s3u s4) hD3, ?_⟩
        · rw [iN_len]
          exact lt_line (Nat.le_trans (n4 i) (by decide))
        · rw [upd_same, flat_take hg]
          show _ = some (HO.lst ((iN (_ ++ [letF [r]])).map V.int))
          rw [iN_app]
    · rintro H3 ⟨s3, hL3⟩
      rw [lene, List.take_length] at hL3
      have e1 := n2 W.rules.length
      have e2 := n4 W.ends.length
      rw [List.take_length] at e1 e2
      refine ⟨_, rfl, _, rfl, D1, D2, _, _, rfl, rfl, (Same.trans s2 s3) _ _ hL1, s3 _ _ hL2, ?_, fun p hp => ?_⟩
      · rw [iN_len, iN_len, List.length_map]
        exact Nat.le_of_lt (lt_line (by omega))
      · refine ⟨_, rfl, p, D3, _, _, rfl, rfl, upd_same, by rw [upd_ne (ne_of_none hL3 hp)]; exact hL3, ?_, fun q hq => ?_⟩
        · rw [List.length_append, iN_len, iN_len, iN_len, List.length_map]
          exact Nat.le_of_lt (lt_line (by omega))
        · have eq : ∀ Hx : Hp, upd Hx q (HO.lst ((iN (W.begins.map (·.length))).map V.int ++ (iN (W.rules.flatMap fun row => row.flatMap entL)).map V.int ++ (iN (W.ends.flatMap endL)).map V.int)) q = some (HO.lst ((iN (placesW W)).map V.int)) := fun Hx => by
            rw [upd_same, ← iN_cat, ← iN_cat]
            rfl
          refine ⟨q, _, rfl, SqL.of (eq _), ?_, fun m hm hle => ?_⟩
          · unfold iN placesW
            rw [List.length_map, List.length_append, List.length_append, List.length_map]
            have := hW.b1
            omega
          · unfold iN at hm hle
            obtain ⟨mm, hmm, rfl⟩ := List.mem_map.mp hm
            refine k mm _ (Same.trans (Same.trans (Same.trans s12 s3) (same_new hp)) (same_new hq)) hmm fun n hn => ?_
            have q := hle (n : Int) (List.mem_map_of_mem hn)
            omega
end

/-- the program's written bounds -/
structure CN (mg : Str → Option Value) : Prop where
  st : ∃ t, mg "SMALL_STATES" = some (.int 4 t)
  ki : ∃ t, mg "SMALL_KINDS" = some (.int 3 t)
  bu : ∃ t, mg "SMALL_BUFFERS" = some (.int 2 t)
  le : ∃ t, mg "SMALL_LETTERS" = some (.int 24 t)
theorem pe_num {X : Cx} {x : Str} {n : Int} {pos : Pos} (hg : Gl X x) (h : ∃ t, X.mg x = some (.int n t)) (hd : (x == ("__debug__" : Str)) = false := by decide) : PE X (.Name x pos) (tC (.int n)) := by
  obtain ⟨t, e⟩ := h
  exact pe_glob hg e ⟨_, rfl⟩ hd
theorem sc_lletters : FnScope ["rows", "found", "recipe", "part"] ["rows"] (fnScope st_law_letters) := fnScope_by (by decide +kernel)
theorem sc_lsmall : FnScope ["writer", "begins", "rules", "ends", "row", "text", "entry", "end"] ["writer"] (fnScope st_law_small) := fnScope_by (by decide +kernel)
/-- recipes in a list or a tuple -/
def RAt (K : PySem.W.Frag) (H : Hp) (a : Addr) (fs : List Rc) : Prop := ∃ xs, (H a = some (.lst xs) ∨ H a = some (.tup xs)) ∧ TpAll H xs (fs.map Rc.d)
def spLLetters (K : PySem.W.Frag) : Sp := fun vs H Q _ => ∃ (a : Addr) (fs : List Rc), vs = [.ref a] ∧ RAt K H a fs ∧ FSz fs ∧ ∀ H', Same H H' → Q (.int (letF fs : Nat)) H'
theorem letF_take {fs : List Rc} {i : Nat} {r : Rc} (h : fs[i]? = some r) : letF (fs.take (i + 1)) = letF (fs.take i) + lets r := by
  unfold letF
  rw [take_map_more h, List.sum_append]
  rfl
section
variable {P : Program} {w : World} {K : PySem.W.Frag} {mg : Str → Option Value} {base : Heap} {f : Addr} {fd : FuncData}
theorem cal_is_small_ (F : C8.Def K mg "is_small" st_is_small_ f fd) (b : Binds K fd ["writer"] []) (B : BN3 mg) (N : CN mg) (Cp : Cal P w K mg base 2 "most_letters" spMost []) : Cal P w K mg base 3 "is_small" spSmall [] := by
  refine cal0 F b .nil sc_small (fun vs H Q E h => ?_) (fun cdv A outer s H vs Q E hr h => ?_)
  · obtain ⟨a, W, rfl, _⟩ := h
    rfl
  · obtain ⟨a, W, rfl, ha, hW, k⟩ := h
    obtain ⟨a, xs, rfl, ha1, ha2⟩ := ha.tup_inv
    cases ha2 with
    | @cons vb x2 _ _ tb h2 =>
    cases h2 with
    | @cons vr x3 _ _ tr h3 =>
    cases h3 with
    | @cons ve x4 _ _ te h4 =>
    cases h4
    obtain ⟨ba, bx, rfl, tb1, tb2⟩ := tb.tup_inv
    obtain ⟨ra, rx, rfl, tr1, tr2⟩ := tr.tup_inv
    have lb : bx.length = W.begins.length := by rw [tb2.len, List.length_map]
    have lr : rx.length = W.rules.length := by rw [tr2.len, List.length_map]
    refine ⟨_, pss_cons (ps_asg (pv 0) (pg_tup rfl (pgs_cons (pg_name (i := 1) sc_small.nd rfl (Or.inl rfl)) (pgs_cons (pg_name (i := 2) sc_small.nd rfl (Or.inl rfl)) (pgs_cons (pg_name (i := 3) sc_small.nd rfl (Or.inl rfl)) pgs_nil)))))
      (pss_cons (ps_if (PW.pt (pw_or (pt_cmpR op_gt (pe_callB call_len_seq (by rfl) B.len PySem.boot_len (pa_cons (pv 2) pa_nil)) (pe_num (by rfl) N.st) (nomark _)) (pw_or (pt_cmpR op_gt (pe_callB call_len_seq (by rfl) B.len PySem.boot_len (pa_cons (pe_ix ix_tup (pv 2) pe_int (fun _ _ => rfl)) pa_nil)) (pe_num (by rfl) N.ki) (nomark _))
          (pw_or1 (pt_cmpR op_gt (pe_callB call_len_seq (by rfl) B.len PySem.boot_len (pa_cons (pv 1) pa_nil)) (pe_num (by rfl) N.bu) (nomark _)))))) (pss_one (ps_ret pe_bl)) pss_nil)
      (pss_one (ps_ret (pe_cmpR op_le (pe_c Cp hr (by decide) (by rfl) (pa_cons (pv 0) pa_nil)) (pe_num (by rfl) N.le) (nomark _))))), ?_⟩
    refine ⟨_, rfl, a, _, rfl, SqT.of ha1, rfl, _, _, rfl, _, _, rfl, _, _, rfl, rfl, ?_⟩
    obtain ⟨row, hrow⟩ : ∃ row, W.rules[0]? = some row := ⟨_, List.getElem?_eq_getElem (by have := hW.r1; omega)⟩
    obtain ⟨rv, y1, y2⟩ := tr2.at hrow
    obtain ⟨wa, wx, rfl, w1, w2⟩ := y2.tup_inv
    have lw : wx.length = row.length := by rw [w2.len, List.length_map]
    have hd0 : W.rules.headD [] = row := by
      cases hR : W.rules with
      | nil => rw [hR] at hrow; cases hrow
      | cons q r =>
        rw [hR] at hrow
        exact Option.some.inj hrow
    have fin : (decide (W.rules.length > 4) || decide ((W.rules.headD []).length > 3) || decide (W.begins.length > 2)) = true → Q (.bl false) H := fun e => by
      have q := k H (Same.refl H)
      have e2 : smallW W = false := by
        unfold smallW
        rw [e]
        rfl
      rw [e2] at q
      exact q
    refine ⟨_, rfl, ra, _, rfl, .inr (SqT.of tr1), _, _, rfl, rfl, _, rfl, ?_⟩
    rw [lr]
    have plen : (placesW W).length ≤ 1000 := by
      obtain ⟨n1, n2, n3, n4⟩ := placesW_len hW
      have e1 := n2 W.rules.length
      have e2 := n4 W.ends.length
      rw [List.take_length] at e1 e2
      unfold placesW
      rw [List.length_append, List.length_append, List.length_map]
      omega
    refine ite2 (fun c1 => ?_) (fun c1 => ?_)
    · refine iteT (fin ?_)
      rw [decide_eq_true (show W.rules.length > 4 by have := of_decide_eq_true c1; omega)]
      rfl
    · refine ⟨_, rfl, ra, _, _, _, rfl, rfl, SqT.of tr1, atI_nat (j := 0) y1, wa, _, rfl, .inr (SqT.of w1), _, _, rfl, rfl, _, rfl, ?_⟩
      rw [lw]
      have f1 : decide (W.rules.length > 4) = false := decide_eq_false (fun z => c1 (decide_eq_true (by omega)))
      refine ite2 (fun c2 => ?_) (fun c2 => ?_)
      · refine iteT (fin ?_)
        rw [f1, hd0, decide_eq_true (show row.length > 3 by have := of_decide_eq_true c2; omega)]
        rfl
      · refine ⟨_, rfl, ba, _, rfl, .inr (SqT.of tb1), _, _, rfl, rfl, _, rfl, ?_⟩
        rw [lb]
        have f2 : decide ((W.rules.headD []).length > 3) = false := by
          rw [hd0]
          exact decide_eq_false (fun z => c2 (decide_eq_true (by omega)))
        refine ite2 (fun c3 => ?_) (fun c3 => ?_)
        · refine fin ?_
          rw [f1, f2, decide_eq_true (show W.begins.length > 2 by have := of_decide_eq_true c3; omega)]
          rfl
        · have f3 : decide (W.begins.length > 2) = false := decide_eq_false (fun z => c3 (decide_eq_true (by omega)))
          have all3 : (decide (W.rules.length > 4) || decide ((W.rules.headD []).length > 3) || decide (W.begins.length > 2)) = false := by
            rw [f1, f2, f3]
            rfl
          refine ⟨_, rfl, .ref a, W, rfl, ha, hW, fun m H1 s1 hm hle => ⟨_, _, rfl, rfl, ?_⟩⟩
          have q := k H1 s1
          have e2 : smallW W = decide ((m : Int) ≤ 24) := by
            unfold smallW
            rw [all3]
            by_cases c : m ≤ 24
            · rw [decide_eq_true (show (m : Int) ≤ 24 by omega), Bool.not_false, Bool.true_and, List.all_eq_true]
              exact fun n hn => decide_eq_true (Nat.le_trans (hle n hn) c)
            · rw [decide_eq_false (show ¬ (m : Int) ≤ 24 by omega), Bool.not_false, Bool.true_and, List.all_eq_false]
              exact ⟨m, hm, by rw [decide_eq_false c]; exact Bool.false_ne_true⟩
          rw [e2] at q
          exact q
theorem cal_lletters (F : C8.Def K mg "_law_letters" st_law_letters f fd) (b : Binds K fd ["rows"] []) (B : BN3 mg) : Cal P w K mg base 1 "_law_letters" (spLLetters K) [] := by
  refine cal0 F b .nil sc_lletters (fun vs H Q E h => ?_) (fun cdv A outer s H vs Q E hr h => ?_)
  · obtain ⟨a, fs, rfl, _⟩ := h
    rfl
  · obtain ⟨a, fs, rfl, ⟨xs, hx, h2⟩, hf, k⟩ := h
    have lenx : xs.length = fs.length := by rw [h2.len, List.length_map]
    refine ⟨_, pss_cons (ps_set (i := 1) sc_lletters.nd rfl (Or.inl rfl) pe_int)
      (pss_cons (ps_for PassesOwn.never rfl (pi_any (pv 0)) (pg_name (i := 2) sc_lletters.nd rfl (Or.inl rfl))
        (pss_one (ps_set (i := 1) sc_lletters.nd rfl (Or.inl rfl) (pe_op op_add (pv 1) (pe_callB (cr_sum rfl) (by rfl) B.sum (by decide +kernel) (pa_cons (pe_lc (own := [("part", 3)]) (g := gName 3) (tt := tB (tCB (rIsi K) (tCons (tVar 3) (tCons (tC (.ty "str")) tNil)))) (by rfl) sc_lletters.nd (pi_tup (pv 2))
          (blkOk_by (own := [("part", 3)]) (N := ["rows", "found", "recipe", "part"]) (sc := fnScope st_law_letters) (by decide +kernel)) (fun _ _ _ _ _ => pg_name (i := 3) sc_lletters.nd rfl (Or.inl rfl))
          (fun _ _ _ _ _ => pts_one (pt_val (pe_callB (isiK K) (by rfl) B.isi (by decide +kernel) (pa_cons (pv 3) (pa_cons (pe_bltn (v := .ty "str") (by rfl) B.str (by decide +kernel) rfl) pa_nil)))))
          (fun _ _ _ _ _ => pe_callB call_len_str (by rfl) B.len PySem.boot_len (pa_cons (pv 3) pa_nil))) pa_nil))))))
      (pss_one (ps_ret (pv 1)))), ?_⟩
    -- one recipe
    have turn : ∀ (i : Nat) (x : V) (σ : L2.St) (H1 : Hp), xs[i]? = some x → (Same H H1 ∧ ∃ v2 : Option V, σ = [some (.ref a), some (.int (letF (fs.take i) : Nat)), v2, none]) →
        gName 2 x σ H1 fun σ2 H2 => tAsg (tOp (rI0 fun i j => .int (i + j)) (tVar 1) (tCB (rSum K) (tCons (tLc (iTup K (tVar 2)) (gName 3) (tB (tCB (rIsi K) (tCons (tVar 3) (tCons (tC (.ty "str")) tNil)))) (tCB (fun xs H Q => ∃ z, xs = [.str z] ∧ z.length ≤ sizeLine ∧ Q (.int z.length) H) (tCons (tVar 3) tNil)) [3]) tNil))) (gName 1)
          { nx := fun σ H' => Same H H' ∧ ∃ v2 : Option V, σ = [some (.ref a), some (.int (letF (fs.take (i + 1)) : Nat)), v2, none], rt := Q, bk := fun _ _ => True, ct := fun σ H' => Same H H' ∧ ∃ v2 : Option V, σ = [some (.ref a), some (.int (letF (fs.take (i + 1)) : Nat)), v2, none] } σ2 H2 := by
      rintro i x σ H1 hi ⟨s1, v2, rfl⟩
      have hlt : i < fs.length := by
        have q := (List.getElem?_eq_some_iff.mp hi).1
        omega
      have hg := List.getElem?_eq_getElem hlt
      obtain ⟨v, hv, tv⟩ := h2.at hg
      rw [hi] at hv
      cases hv
      have rsz := hf.each _ (List.getElem_mem hlt)
      generalize hr' : fs[i] = r at *
      obtain ⟨ra, rx, rfl, r1, r2⟩ := tv.tup_inv
      obtain rfl := tpAll_parts r2
      refine ⟨_, rfl, _, rfl, ra, rfl, ⟨_, SqT.of (s1 _ _ r1)⟩, fun D hD => ?_⟩
      refine lc_tup (K := K) (a := ra) (xs := r.map Pt.v) (fun j H' => Same H1 H' ∧ H' D = some (.lst ((iN (pieces (r.take j))).map V.int))) ⟨same_new hD, upd_same⟩ (fun j H' _ h => SqT.of ((Same.trans s1 h.1) _ _ r1)) ?_ ?_
      · rintro j y H2 hj ⟨s2, hL2⟩
        obtain ⟨q, hq, rfl⟩ : ∃ q, r[j]? = some q ∧ y = Pt.v q := by
          rw [List.getElem?_map] at hj
          cases e : r[j]? with
          | none =>
            rw [e] at hj
            cases hj
          | some u =>
            rw [e] at hj
            exact ⟨u, rfl, (Option.some.inj hj).symm⟩
        refine ⟨rfl, ?_⟩
        obtain ⟨ty, tb, t1, t2, t3, t4⟩ := isi_pt (K := K) (H := H2) q
        refine ⟨_, rfl, q.v, _, ty, _, tb, rfl, .ty _, t1, t2, _, rfl, ?_⟩
        cases tb with
        | true =>
          obtain ⟨z, rfl⟩ := t3 rfl
          refine iteT ⟨_, rfl, z, rfl, piece_room rsz (List.mem_of_getElem? hq), _, hL2, ?_, Same.put s2 hD, ?_⟩
          · rw [iN_len]
            have a2 := pieces_le (r.take j)
            have a3 := rsz.len
            rw [List.length_take] at a2
            exact lt_line (by omega)
          · rw [upd_same, pieces_take hq]
            have e : pieces [Pt.s z] = [z.length] := rfl
            rw [e, iN_app]
        | false =>
          obtain ⟨m, rfl⟩ := t4 rfl
          refine iteF ⟨s2, ?_⟩
          rw [hL2, pieces_take hq]
          have e : pieces [Pt.b m] = [] := rfl
          rw [e, List.append_nil]
      · rintro H2 ⟨s2, hL2⟩
        rw [List.length_map, List.take_length] at hL2
        refine ⟨D, _, rfl, SqL.of hL2, _, _, rfl, rfl, Same.trans s1 s2, some (.ref ra), ?_⟩
        rw [iN_sum, pieces_sum, letF_take hg]
        rfl
    have fin : ∀ (σ : L2.St) (H1 : Hp), (Same H H1 ∧ ∃ v2 : Option V, σ = [some (.ref a), some (.int (letF (fs.take xs.length) : Nat)), v2, none]) → tRet (tVar 1) { nx := fun _ H1 => Q .non H1, rt := Q } σ H1 := by
      rintro σ H1 ⟨s1, v2, rfl⟩
      rw [lenx, List.take_length]
      exact ⟨_, rfl, k _ s1⟩
    rcases hx with hx | hx
    · refine .inl ⟨_, rfl, a, rfl, ⟨_, SqL.of hx⟩, for_list (K := K) (a := a) (xs := xs) (fun i σ H' => Same H H' ∧ ∃ v2 : Option V, σ = [some (.ref a), some (.int (letF (fs.take i) : Nat)), v2, none]) ⟨Same.refl H, none, rfl⟩ (fun i σ H' _ h => SqL.of (h.1 _ _ hx)) turn fin⟩
    · refine .inr ⟨_, rfl, a, rfl, ⟨_, SqT.of hx⟩, for_tup (K := K) (a := a) (xs := xs) (fun i σ H' => Same H H' ∧ ∃ v2 : Option V, σ = [some (.ref a), some (.int (letF (fs.take i) : Nat)), v2, none]) ⟨Same.refl H, none, rfl⟩ (fun i σ H' _ h => SqT.of (h.1 _ _ hx)) turn fin⟩
end

theorem shaped_neat {k n : Nat} {d : PyData} (h : Neat k n d) (hk : k ≤ 60) : SeqAt.shaped d = true := by
  unfold SeqAt.shaped
  have q := h.dep
  rw [h.lay, decide_eq_true (show d.depth ≤ 64 by omega)]
  rfl
theorem neat_rsz {r : Rc} (h : RSz r) : Neat 1 4000 r.d := by
  have e : NeatAll 0 (r.length * (300 + 1)) (r.map Pt.d) := neatAll_map fun q hq => by
    cases q with
    | s z => exact (neat_str (low_strOk (h.low _ hq))).le (Nat.le_refl _) (Nat.le_trans (part_len hq) h.lt)
    | b i =>
      have := h.b i (List.mem_flatMap.mpr ⟨_, hq, List.mem_singleton.mpr rfl⟩)
      exact (neat_int (by omega)).le (Nat.le_refl _) (by decide)
  have l := h.len
  exact (e.tup).le (Nat.le_refl _) (by omega)
theorem neat_esz {e : Option (Nat × List Rc)} (h : ESz e) : Neat 3 50000 (entD e) := by
  cases e with
  | none => exact neat_none.le (by decide) (by decide)
  | some x =>
    obtain ⟨t, fs⟩ := x
    obtain ⟨h1, h2⟩ := h t fs rfl
    have a : NeatAll 1 (fs.length * (4000 + 1)) (fs.map Rc.d) := neatAll_map fun r hr => neat_rsz (h2.each r hr)
    have b : NeatAll 2 _ [.int (t : Int), fillsD fs] := NeatAll.cons ((neat_int (i := (t : Int)) (by omega)).le (by decide) (Nat.le_refl _)) (NeatAll.cons a.tup neatAll_nil)
    have l := h2.len
    exact b.tup.le (Nat.le_refl _) (by omega)
theorem neat_endz {e : Option Rc} (h : ∀ q, e = some q → RSz q) : Neat 1 4000 (endD e) := by
  cases e with
  | none => exact neat_none.le (by decide) (by decide)
  | some r => exact neat_rsz (h r rfl)
def over (n : Nat) : Bool := decide (n > 24)
def badE (e : Option (Nat × List Rc)) : Bool := (entL e).any over
def badN (e : Option Rc) : Bool := (endL e).any over
theorem filter_take {α : Type} {t : α → Bool} {l : List α} {i : Nat} {x : α} (h : l[i]? = some x) : (l.take (i + 1)).filter t = (l.take i).filter t ++ (if t x = true then [x] else []) := by
  rw [List.take_add_one, h, List.filter_append]
  show _ ++ List.filter t [x] = _
  rw [List.filter_cons, List.filter_nil]
theorem all_flat {α : Type} {g : α → List Nat} : ∀ l : List α, ((l.flatMap g).all fun n => decide (n ≤ 24)) = (l.filter fun e => (g e).any over).isEmpty
  | [] => rfl
  | x :: r => by
    rw [List.flatMap_cons, List.all_append, all_flat r, List.filter_cons]
    have e : ((g x).all fun n => decide (n ≤ 24)) = !(g x).any over := by
      rw [List.all_eq_not_any_not]
      have fe : (fun y : Nat => !decide (y ≤ 24)) = over := funext fun n => by
        unfold over
        by_cases c : n ≤ 24
        · rw [decide_eq_true c, decide_eq_false (by omega)]
          rfl
        · rw [decide_eq_false c, decide_eq_true (by omega)]
          rfl
      rw [fe]
    rw [e]
    cases (g x).any over with
    | true => simp
    | false => simp
section
variable {P : Program} {w : World} {K : PySem.W.Frag} {mg : Str → Option Value} {base : Heap} {f : Addr} {fd : FuncData}
theorem cal_lsmall (F : C8.Def K mg "_law_small" st_law_small f fd) (b : Binds K fd ["writer"] []) (B : BN3 mg) (Cl : Cal P w K mg base 1 "_law_letters" (spLLetters K) []) : Cal P w K mg base 2 "_law_small" spSmall [] := by
  refine cal0 F b .nil sc_lsmall (fun vs H Q E h => ?_) (fun cdv A outer s H vs Q E hr h => ?_)
  · obtain ⟨a, W, rfl, _⟩ := h
    rfl
  · obtain ⟨a, W, rfl, ha, hW, k⟩ := h
    obtain ⟨a, xs, rfl, ha1, ha2⟩ := ha.tup_inv
    cases ha2 with
    | @cons vb x2 _ _ tb h2 =>
    cases h2 with
    | @cons vr x3 _ _ tr h3 =>
    cases h3 with
    | @cons ve x4 _ _ te h4 =>
    cases h4
    obtain ⟨ba, bx, rfl, tb1, tb2⟩ := tb.tup_inv
    obtain rfl := tpAll_strs tb2
    obtain ⟨ra, rx, rfl, tr1, tr2⟩ := tr.tup_inv
    obtain ⟨ea, ex, rfl, te1, te2⟩ := te.tup_inv
    have lb : (W.begins.map V.str).length = W.begins.length := List.length_map _
    have lr : rx.length = W.rules.length := by rw [tr2.len, List.length_map]
    have le : ex.length = W.ends.length := by rw [te2.len, List.length_map]
    have nL : List Str := ["writer", "begins", "rules", "ends", "row", "text", "entry", "end"]
    refine ⟨_, pss_cons (ps_asg (pv 0) (pg_tup rfl (pgs_cons (pg_name (i := 1) sc_lsmall.nd rfl (Or.inl rfl)) (pgs_cons (pg_name (i := 2) sc_lsmall.nd rfl (Or.inl rfl)) (pgs_cons (pg_name (i := 3) sc_lsmall.nd rfl (Or.inl rfl)) pgs_nil)))))
      (pss_cut (ps_if (PW.pt (pw_or (pt_cmpR op_gt (pe_callB call_len_seq (by rfl) B.len PySem.boot_len (pa_cons (pv 2) pa_nil)) pe_int (nomark _)) (pw_or (pt_cmpR op_gt (pe_callB call_len_seq (by rfl) B.len PySem.boot_len (pa_cons (pe_ix ix_tup (pv 2) pe_int (fun _ _ => rfl)) pa_nil)) pe_int (nomark _))
          (pw_or (pt_cmpR op_gt (pe_callB call_len_seq (by rfl) B.len PySem.boot_len (pa_cons (pv 1) pa_nil)) pe_int (nomark _))
          (pw_or1 (pt_cmpR op_gt (pe_callB (cr_max rfl) (by rfl) B.max (by decide +kernel) (pa_cons (pe_lc (own := [("text", 5)]) (g := gName 5) (tt := tYes) (by rfl) sc_lsmall.nd (pi_tup (pv 1)) (blkOk_by (own := [("text", 5)]) (N := ["writer", "begins", "rules", "ends", "row", "text", "entry", "end"]) (sc := fnScope st_law_small) (by decide +kernel))
            (fun _ _ _ _ _ => pg_name (i := 5) sc_lsmall.nd rfl (Or.inl rfl)) (fun _ _ _ _ _ => pts_nil) (fun _ _ _ _ _ => pe_callB call_len_str (by rfl) B.len PySem.boot_len (pa_cons (pv 5) pa_nil))) pa_nil)) pe_int (nomark _))))))) (pss_one (ps_ret pe_bl)) pss_nil)
      (pss_cons (ps_for PassesOwn.never rfl (pi_tup (pv 2)) (pg_name (i := 4) sc_lsmall.nd rfl (Or.inl rfl))
        (pss_one (ps_if (pt_cmpR (op_neD hr.units) (pe_lc (own := [("entry", 6)]) (g := gName 6) (tt := tAnd (tB (tNotN (tVar 6))) (tTest (tOp (rI0 fun i j => .bl (decide (j < i))) (tCall (spLLetters K) [] C8.E0 (tCons (tOp (rIxT K) (tVar 6) (tC (.int 1))) tNil)) (tC (.int 24))))) (by rfl) sc_lsmall.nd (pi_tup (pv 4))
          (blkOk_by (own := [("entry", 6)]) (N := ["writer", "begins", "rules", "ends", "row", "text", "entry", "end"]) (sc := fnScope st_law_small) (by decide +kernel)) (fun _ _ _ _ _ => pg_name (i := 6) sc_lsmall.nd rfl (Or.inl rfl))
          (fun _ _ _ _ _ => pts_one (PW.pt (pw_and (pt_cmp (pc_notN (pv 6))) (pw_and1 (pt_cmpR op_gt (pe_c Cl hr (by decide) (by rfl) (pa_cons (pe_ix (ix_tupK K) (pv 6) pe_int (fun _ _ => rfl)) pa_nil)) pe_int (nomark _)))))) (fun _ _ _ _ _ => pv 6)) (pe_lst pa_nil) (nomark _)) (pss_one (ps_ret pe_bl)) pss_nil)))
      (pss_one (ps_ret (pe_cmpR (op_eqD hr.units) (pe_lc (own := [("end", 7)]) (g := gName 7) (tt := tAnd (tB (tNotN (tVar 7))) (tTest (tOp (rI0 fun i j => .bl (decide (j < i))) (tCall (spLLetters K) [] C8.E0 (tCons (tLst (tCons (tVar 7) tNil)) tNil)) (tC (.int 24))))) (by rfl) sc_lsmall.nd (pi_tup (pv 3))
          (blkOk_by (own := [("end", 7)]) (N := ["writer", "begins", "rules", "ends", "row", "text", "entry", "end"]) (sc := fnScope st_law_small) (by decide +kernel)) (fun _ _ _ _ _ => pg_name (i := 7) sc_lsmall.nd rfl (Or.inl rfl))
          (fun _ _ _ _ _ => pts_one (PW.pt (pw_and (pt_cmp (pc_notN (pv 7))) (pw_and1 (pt_cmpR op_gt (pe_c Cl hr (by decide) (by rfl) (pa_cons (pe_lst (pa_cons (pv 7) pa_nil)) pa_nil)) pe_int (nomark _)))))) (fun _ _ _ _ _ => pv 7)) (pe_lst pa_nil) (nomark _)))))), ?_⟩
    refine ⟨_, rfl, a, _, rfl, SqT.of ha1, rfl, _, _, rfl, _, _, rfl, _, _, rfl, rfl, ?_⟩
    obtain ⟨row0, hrow0⟩ : ∃ row, W.rules[0]? = some row := ⟨_, List.getElem?_eq_getElem (by have := hW.r1; omega)⟩
    obtain ⟨rv, y1, y2⟩ := tr2.at hrow0
    obtain ⟨wa, wx, rfl, w1, w2⟩ := y2.tup_inv
    have lw : wx.length = row0.length := by rw [w2.len, List.length_map]
    have hd0 : W.rules.headD [] = row0 := by
      cases hR : W.rules with
      | nil => rw [hR] at hrow0; cases hrow0
      | cons q r =>
        rw [hR] at hrow0
        exact Option.some.inj hrow0
    have split : smallW W = (!(decide (W.rules.length > 4) || decide ((W.rules.headD []).length > 3) || decide (W.begins.length > 2)) && (((W.begins.map (·.length)).all fun n => decide (n ≤ 24)) && (((W.rules.flatMap fun row => row.flatMap entL).all fun n => decide (n ≤ 24)) && (W.ends.flatMap endL).all fun n => decide (n ≤ 24)))) := by
      unfold smallW placesW
      rw [List.all_append, List.all_append, Bool.and_assoc]
    have no : ∀ H1, Same H H1 → smallW W = false → Q (.bl false) H1 := fun H1 s1 e => by
      have q := k H1 s1
      rw [e] at q
      exact q
    refine ⟨fun σ H1 => σ = [some (.ref a), some (.ref ba), some (.ref ra), some (.ref ea), none, none, none, none] ∧ Same H H1 ∧ (decide (W.rules.length > 4) || decide ((W.rules.headD []).length > 3) || decide (W.begins.length > 2)) = false ∧ ((W.begins.map (·.length)).all fun n => decide (n ≤ 24)) = true, ?_, ?_⟩
    · refine ⟨_, rfl, ra, _, rfl, .inr (SqT.of tr1), _, _, rfl, rfl, _, rfl, ?_⟩
      rw [lr]
      refine ite2 (fun c1 => ?_) (fun c1 => ?_)
      · refine iteT (no H (Same.refl H) ?_)
        rw [split, decide_eq_true (show W.rules.length > 4 by have := of_decide_eq_true c1; omega)]
        rfl
      refine ⟨_, rfl, ra, _, _, _, rfl, rfl, SqT.of tr1, atI_nat (j := 0) y1, wa, _, rfl, .inr (SqT.of w1), _, _, rfl, rfl, _, rfl, ?_⟩
      rw [lw]
      have f1 : decide (W.rules.length > 4) = false := decide_eq_false (fun z => c1 (decide_eq_true (by omega)))
      refine ite2 (fun c2 => ?_) (fun c2 => ?_)
      · refine iteT (no H (Same.refl H) ?_)
        rw [split, f1, hd0, decide_eq_true (show row0.length > 3 by have := of_decide_eq_true c2; omega)]
        rfl
      refine ⟨_, rfl, ba, _, rfl, .inr (SqT.of tb1), _, _, rfl, rfl, _, rfl, ?_⟩
      rw [lb]
      have f2 : decide ((W.rules.headD []).length > 3) = false := by
        rw [hd0]
        exact decide_eq_false (fun z => c2 (decide_eq_true (by omega)))
      refine ite2 (fun c3 => ?_) (fun c3 => ?_)
      · refine iteT (no H (Same.refl H) ?_)
        rw [split, f1, f2, decide_eq_true (show W.begins.length > 2 by have := of_decide_eq_true c3; omega)]
        rfl
      have f3 : decide (W.begins.length > 2) = false := decide_eq_false (fun z => c3 (decide_eq_true (by omega)))
      have all3 : (decide (W.rules.length > 4) || decide ((W.rules.headD []).length > 3) || decide (W.begins.length > 2)) = false := by
        rw [f1, f2, f3]
        rfl
      refine ⟨_, rfl, ba, rfl, ⟨_, SqT.of tb1⟩, fun D1 hD1 => ?_⟩
      refine lc_tup (K := K) (a := ba) (xs := W.begins.map V.str) (fun i H' => Same H H' ∧ H' D1 = some (.lst ((iN ((W.begins.take i).map (·.length))).map V.int))) ⟨same_new hD1, upd_same⟩ (fun i H' _ h => SqT.of (h.1 _ _ tb1)) ?_ ?_
      · rintro i x H1 hi ⟨s1, hL⟩
        obtain ⟨z, hz, rfl⟩ : ∃ z, W.begins[i]? = some z ∧ x = V.str z := by
          rw [List.getElem?_map] at hi
          cases e : W.begins[i]? with
          | none =>
            rw [e] at hi
            cases hi
          | some u =>
            rw [e] at hi
            exact ⟨u, rfl, (Option.some.inj hi).symm⟩
        have zl := (hW.b3 z (List.mem_of_getElem? hz)).len
        have bl := hW.b2
        refine ⟨rfl, _, rfl, z, rfl, Nat.le_trans zl (by decide), _, hL, ?_, Same.put s1 hD1, ?_⟩
        · rw [iN_len, List.length_map, List.length_take]
          exact lt_line (by omega)
        · rw [upd_same, take_map_more hz, iN_app]
      · rintro H1 ⟨s1, hL⟩
        rw [lb, List.take_length] at hL
        refine ⟨D1, _, rfl, SqL.of hL, ?_, fun m hm hle => ⟨_, _, rfl, rfl, _, rfl, ?_⟩⟩
        · unfold iN
          rw [List.length_map, List.length_map]
          exact hW.b1
        · unfold iN at hm hle
          obtain ⟨mm, hmm, rfl⟩ := List.mem_map.mp hm
          by_cases c : mm ≤ 24
          · refine iteF' (decide_eq_false (by omega)) ⟨rfl, s1, all3, ?_⟩
            rw [List.all_eq_true]
            intro y hy
            have q := hle (y : Int) (List.mem_map_of_mem hy)
            exact decide_eq_true (by omega)
          · refine iteT' (decide_eq_true (by omega)) (no H1 s1 ?_)
            rw [split]
            have e : ((W.begins.map (·.length)).all fun n => decide (n ≤ 24)) = false := by
              rw [List.all_eq_false]
              exact ⟨mm, hmm, by rw [decide_eq_false c]; exact Bool.false_ne_true⟩
            rw [e, Bool.false_and, Bool.and_false]
    rintro σ H1 ⟨rfl, s1, all3, allB⟩
    refine ⟨_, rfl, ra, rfl, ⟨_, SqT.of (s1 _ _ tr1)⟩, for_tup (K := K) (a := ra) (xs := rx) (fun i σ H' => (∃ v4 : Option V, σ = [some (.ref a), some (.ref ba), some (.ref ra), some (.ref ea), v4, none, none, none]) ∧ Same H H' ∧ (((W.rules.take i).flatMap fun row => row.flatMap entL).all fun n => decide (n ≤ 24)) = true)
      ⟨⟨none, rfl⟩, s1, rfl⟩ (fun i σ H' _ h => SqT.of (h.2.1 _ _ tr1)) ?_ ?_⟩
    · rintro i x σ H2 hi ⟨⟨v4, rfl⟩, s2, good⟩
      have hlt : i < W.rules.length := by
        have q := (List.getElem?_eq_some_iff.mp hi).1
        omega
      have hg := List.getElem?_eq_getElem hlt
      obtain ⟨v, hv, tv⟩ := tr2.at hg
      rw [hi] at hv
      cases hv
      have mem := List.getElem_mem hlt
      obtain ⟨rl, rsz⟩ := hW.r3 _ mem
      generalize hrow : W.rules[i] = row at *
      obtain ⟨qa, qx, rfl, q1, q2⟩ := tv.tup_inv
      have lenq : qx.length = row.length := by rw [q2.len, List.length_map]
      refine ⟨_, rfl, qa, rfl, ⟨_, SqT.of (s2 _ _ q1)⟩, fun D2 hD2 => ?_⟩
      refine lc_tup (K := K) (a := qa) (xs := qx) (fun j H' => Same H2 H' ∧ LAt H' D2 (((row.take j).filter badE).map entD)) ⟨same_new hD2, [], upd_same, .nil⟩ (fun j H' _ h => SqT.of ((Same.trans s2 h.1) _ _ q1)) ?_ ?_
      · rintro j y H3 hj ⟨s3, us, hu, au⟩
        have jlt : j < row.length := by
          have q := (List.getElem?_eq_some_iff.mp hj).1
          omega
        have hgj := List.getElem?_eq_getElem jlt
        obtain ⟨u, hu', tu⟩ := q2.at hgj
        rw [hj] at hu'
        cases hu'
        have esz := rsz _ (List.getElem_mem jlt)
        generalize hE : row[j] = en at *
        have s23 := Same.trans s2 s3
        refine ⟨rfl, ?_⟩
        refine ⟨_, rfl, _, rfl, ?_⟩
        rw [filter_take hgj]
        cases en with
        | none =>
          obtain rfl := tu.non_inv
          refine iteF' (by rw [decide_eq_true rfl]; rfl) (iteF ⟨s3, ?_⟩)
          show LAt H3 D2 (((row.take j).filter badE ++ []).map entD)
          rw [List.append_nil]
          exact ⟨us, hu, au⟩
        | some e =>
          obtain ⟨tg, fs⟩ := e
          obtain ⟨_, fsz⟩ := esz tg fs rfl
          have tu' := tu
          obtain ⟨ea', es, rfl, y7, y8⟩ := tu.tup_inv
          cases y8 with
          | @cons vtg x9 _ _ z1 z2 =>
          cases z2 with
          | @cons vfs x10 _ _ z3 z4 =>
          cases z4
          obtain ⟨fa, fx, rfl, f1, f2⟩ := z3.tup_inv
          refine iteT' (by rw [decide_eq_false (by intro z; cases z)]; rfl) ?_
          refine ⟨_, rfl, ea', _, _, _, rfl, rfl, SqT.of (s23 _ _ y7), atI_nat (j := 1) rfl, fa, fs, rfl, ⟨fx, .inr (s23 _ _ f1), f2.mono (Same.tk s23)⟩, fsz, fun H4 s4 => ⟨_, _, rfl, rfl, _, rfl, ?_⟩⟩
          have ov : badE (some (tg, fs)) = decide (24 < (letF fs : Nat)) := by
            show (over (letF fs) || false) = _
            rw [Bool.or_false]
            rfl
          by_cases c : 24 < letF fs
          · refine iteT' (decide_eq_true (by omega)) ?_
            rw [ov, decide_eq_true c, if_pos rfl]
            have hu4 := s4 _ _ hu
            refine ⟨_, rfl, us, hu4, ?_, Same.put (Same.trans s3 s4) hD2, ?_⟩
            · rw [au.len, List.length_map]
              have := List.length_filter_le badE (row.take j)
              rw [List.length_take] at this
              exact lt_line (by omega)
            · rw [List.map_append]
              exact LAt.push hu4 (au.mono (Same.tk s4)) (tu'.mono (Same.tk (Same.trans s23 s4)))
          · refine iteF' (decide_eq_false (by omega)) ⟨Same.trans s3 s4, ?_⟩
            rw [ov, decide_eq_false c, if_neg Bool.false_ne_true, List.append_nil]
            exact LAt.same ⟨us, hu, au⟩ s4
      · rintro H3 ⟨s3, us, hu, au⟩
        rw [lenq, List.take_length] at au
        refine ⟨Nat.zero_le _, fun e he => ?_⟩
        have s3e := Same.trans s3 (same_new (o := .lst []) he)
        have hu' : upd H3 e (.lst []) D2 = some (.lst us) := same_new he _ _ hu
        have sh : SeqAt.shaped (.list ((row.filter badE).map entD)) = true := shaped_neat ((neatAll_map (k := 3) (a := 50000) fun en hen => neat_esz (rsz en (List.mem_filter.mp hen).1)).lst) (by decide)
        refine ⟨.list ((row.filter badE).map entD), .list [], .lst (SqL.of hu') ((au.mono (tk_new he)).dp), .lst (SqL.of upd_same) .nil, sh, by decide, _, rfl, ?_⟩
        rw [list_ne_nil]
        have em : ((row.filter badE).map entD).isEmpty = (row.filter badE).isEmpty := by cases row.filter badE <;> rfl
        have rowgood := all_flat (g := entL) row
        rw [em]
        cases hf : (row.filter badE).isEmpty with
        | true =>
          refine iteF ⟨⟨_, rfl⟩, Same.trans s2 s3e, ?_⟩
          rw [flat_take hg, List.all_append, good, rowgood]
          exact hf
        | false =>
          refine iteT (no _ (Same.trans s2 s3e) ?_)
          rw [split]
          have e2 : ((W.rules.flatMap fun row => row.flatMap entL).all fun n => decide (n ≤ 24)) = false := by
            have e3 : W.rules = W.rules.take i ++ row :: W.rules.drop (i + 1) := by
              rw [← hrow]
              exact (List.take_append_drop i W.rules).symm.trans (by rw [List.drop_eq_getElem_cons hlt])
            rw [e3, List.flatMap_append, List.all_append, List.flatMap_cons, List.all_append, rowgood]
            have e4 : (row.filter fun e => (entL e).any over).isEmpty = false := hf
            rw [e4, Bool.false_and, Bool.and_false]
          rw [e2, Bool.false_and, Bool.and_false, Bool.and_false]
    · rintro σ H2 ⟨⟨v4, rfl⟩, s2, good⟩
      rw [lr, List.take_length] at good
      refine ⟨_, rfl, ea, rfl, ⟨_, SqT.of (s2 _ _ te1)⟩, fun D3 hD3 => ?_⟩
      refine lc_tup (K := K) (a := ea) (xs := ex) (fun j H' => Same H2 H' ∧ LAt H' D3 (((W.ends.take j).filter badN).map endD)) ⟨same_new hD3, [], upd_same, .nil⟩ (fun j H' _ h => SqT.of ((Same.trans s2 h.1) _ _ te1)) ?_ ?_
      · rintro j y H3 hj ⟨s3, us, hu, au⟩
        have jlt : j < W.ends.length := by
          have q := (List.getElem?_eq_some_iff.mp hj).1
          omega
        have hgj := List.getElem?_eq_getElem jlt
        obtain ⟨u, hu', tu⟩ := te2.at hgj
        rw [hj] at hu'
        cases hu'
        have esz := hW.e2 _ (List.getElem_mem jlt)
        generalize hE : W.ends[j] = en at *
        have s23 := Same.trans s2 s3
        refine ⟨rfl, ?_⟩
        refine ⟨_, rfl, _, rfl, ?_⟩
        rw [filter_take hgj]
        cases en with
        | none =>
          obtain rfl := tu.non_inv
          refine iteF' (by rw [decide_eq_true rfl]; rfl) (iteF ⟨s3, ?_⟩)
          show LAt H3 D3 (((W.ends.take j).filter badN ++ []).map endD)
          rw [List.append_nil]
          exact ⟨us, hu, au⟩
        | some r =>
          have rsz := esz r rfl
          have nv : y ≠ .non := by
            obtain ⟨q1, q2, rfl, _⟩ := tu.tup_inv
            intro z
            cases z
          refine iteT' (by rw [decide_eq_false nv]; rfl) ?_
          refine ⟨_, rfl, (by show 1 ≤ sizeLine; decide), fun q hq => ?_⟩
          have s3q := Same.trans s3 (same_new (o := .lst [y]) hq)
          refine ⟨q, [r], rfl, ⟨[y], .inl upd_same, .cons (tu.mono (Same.tk (Same.trans s2 s3q))) .nil⟩, ⟨(by show 1 ≤ 10; decide), fun z hz => by rw [List.mem_singleton.mp hz]; exact rsz⟩, fun H4 s4 => ⟨_, _, rfl, rfl, _, rfl, ?_⟩⟩
          have ov : badN (some r) = decide (24 < (letF [r] : Nat)) := by
            show (over (letF [r]) || false) = _
            rw [Bool.or_false]
            rfl
          have s34 := Same.trans s3q s4
          have hu4 : H4 D3 = some (.lst us) := (Same.trans (same_new hq) s4) _ _ hu
          by_cases c : 24 < letF [r]
          · refine iteT' (decide_eq_true (by omega)) ?_
            rw [ov, decide_eq_true c, if_pos rfl]
            refine ⟨_, rfl, us, hu4, ?_, Same.put s34 hD3, ?_⟩
            · rw [au.len, List.length_map]
              have := List.length_filter_le badN (W.ends.take j)
              rw [List.length_take] at this
              have l3 := hW.e1
              exact lt_line (by omega)
            · rw [List.map_append]
              exact LAt.push hu4 (au.mono (Same.tk (Same.trans (same_new hq) s4))) (tu.mono (Same.tk (Same.trans s2 s34)))
          · refine iteF' (decide_eq_false (by omega)) ⟨s34, ?_⟩
            rw [ov, decide_eq_false c, if_neg Bool.false_ne_true, List.append_nil]
            exact LAt.same ⟨us, hu, au⟩ (Same.trans (same_new hq) s4)
      · rintro H3 ⟨s3, us, hu, au⟩
        rw [le, List.take_length] at au
        refine ⟨Nat.zero_le _, fun e he => ?_⟩
        have s3e := Same.trans s3 (same_new (o := .lst []) he)
        have hu' : upd H3 e (.lst []) D3 = some (.lst us) := same_new he _ _ hu
        have sh : SeqAt.shaped (.list ((W.ends.filter badN).map endD)) = true := shaped_neat ((neatAll_map (k := 1) (a := 4000) fun en hen => neat_endz (hW.e2 en (List.mem_filter.mp hen).1)).lst) (by decide)
        refine ⟨.list ((W.ends.filter badN).map endD), .list [], .lst (SqL.of hu') ((au.mono (tk_new he)).dp), .lst (SqL.of upd_same) .nil, sh, by decide, ?_⟩
        have q := k _ (Same.trans s2 s3e)
        have eqe : PyData.eqv (.list ((W.ends.filter badN).map endD)) (.list []) = (W.ends.filter badN).isEmpty := by
          have z := list_ne_nil ((W.ends.filter badN).map endD)
          have z2 : PyData.eqv (.list ((W.ends.filter badN).map endD)) (.list []) = ((W.ends.filter badN).map endD).isEmpty := Bool.not_inj z
          rw [z2]
          cases W.ends.filter badN <;> rfl
        rw [eqe]
        have fin : smallW W = (W.ends.filter badN).isEmpty := by
          rw [split, all3, allB, good, all_flat (g := endL) W.ends]
          rfl
        rw [fin] at q
        exact q
end

/-! ### recipes put together -/
def NE (r : Rc) : Prop := ∀ z, .s z ∈ r → 0 < z.length
theorem len_pos {z : Str} (h : z ≠ "") : 0 < z.length := by
  rcases Nat.eq_zero_or_pos z.length with e | e
  · refine absurd (Str.ext' ?_) h
    have e' : z.cps.size = 0 := e
    exact Array.size_eq_zero_iff.mp e'
  · exact e
inductive Nm : Rc → Prop
  | nil : Nm []
  | b {g : Rc} (i : Nat) : Nm g → Nm (g ++ [.b i])
  | s1 {z : Str} : 0 < z.length → Nm [.s z]
  | s {g : Rc} {i : Nat} {z : Str} : Nm (g ++ [.b i]) → 0 < z.length → Nm (g ++ [.b i] ++ [.s z])
theorem snoc_inj {α : Type} {f g : List α} {a b : α} (h : f ++ [a] = g ++ [b]) : f = g ∧ a = b := by
  have h1 := congrArg List.dropLast h
  have h2 := congrArg List.getLast? h
  rw [List.dropLast_concat, List.dropLast_concat] at h1
  rw [List.getLast?_concat, List.getLast?_concat] at h2
  exact ⟨h1, Option.some.inj h2⟩
theorem Nm.glue {f : Rc} (h : Nm f) : ∀ (g : Rc) (y z : Str), f = g ++ [.s y] → Nm (g ++ [.s (y ++ z)]) := by
  intro g y z e
  cases h with
  | nil => simp at e
  | b i _ =>
    obtain ⟨_, e2⟩ := snoc_inj e
    cases e2
  | @s1 x hx =>
    have e' : ([] : Rc) ++ [.s x] = g ++ [.s y] := e
    obtain ⟨e1, e2⟩ := snoc_inj e'
    subst e1
    cases e2
    exact .s1 (by rw [len_cat]; omega)
  | @s g' i x h' hx =>
    obtain ⟨e1, e2⟩ := snoc_inj e
    subst e1
    cases e2
    exact .s h' (by rw [len_cat]; omega)
theorem Nm.step {f : Rc} (h : Nm f) (q : Pt) : Nm (nstep f q) := by
  cases q with
  | b i => exact .b i h
  | s z =>
    rcases List.eq_nil_or_concat f with rfl | ⟨g, l, rfl⟩
    · rw [nstep_first]
      by_cases e : z = ""
      · rw [if_pos e]
        exact .nil
      · rw [if_neg e]
        exact .s1 (len_pos e)
    · rw [List.concat_eq_append] at *
      cases l with
      | s y =>
        rw [nstep_glue]
        exact h.glue g y z rfl
      | b i =>
        rw [nstep_behind]
        by_cases e : z = ""
        · rw [if_pos e]
          exact h
        · rw [if_neg e]
          exact .s h (len_pos e)
theorem nm_fold : ∀ (ps : Rc) {f : Rc}, Nm f → Nm (ps.foldl nstep f)
  | [], _, h => h
  | q :: r, _, h => nm_fold r (h.step q)
theorem normal_nm (ps : Rc) : Nm (normal ps) := nm_fold ps .nil
theorem normal_snoc (f : Rc) (q : Pt) : normal (f ++ [q]) = nstep (normal f) q := by
  unfold normal
  rw [List.foldl_append]
  rfl
theorem Nm.id {f : Rc} (h : Nm f) : normal f = f := by
  induction h with
  | nil => rfl
  | b i _ ih => rw [normal_snoc, ih]; rfl
  | @s1 z hz =>
    show nstep [] (.s z) = _
    rw [nstep_first, if_neg (fun e => by rw [len_empty e] at hz; omega)]
  | @s g i z _ hz ih => rw [normal_snoc, ih, nstep_behind, if_neg (fun e => by rw [len_empty e] at hz; omega)]
theorem Nm.ne {f : Rc} (h : Nm f) : NE f := by
  induction h with
  | nil => intro z hz; cases hz
  | b i _ ih =>
    intro z hz
    rcases List.mem_append.mp hz with hz | hz
    · exact ih z hz
    · cases List.mem_singleton.mp hz
  | @s1 x hx =>
    intro z hz
    cases List.mem_singleton.mp hz
    exact hx
  | @s g i x _ hx ih =>
    intro z hz
    rcases List.mem_append.mp hz with hz | hz
    · exact ih z hz
    · cases List.mem_singleton.mp hz
      exact hx

/-! ### joined: a def with a star -/
section
open PySem.Spec PyProof.Rows
/-- a def with a star, under its name -/
structure CalR (P : Program) (w : World) (K : PySem.W.Frag) (mg : Str → Option Value) (base : Heap) (k : Nat) (x : Str) (sp : Sp) : Prop where
  ex : ∃ f : Addr, FnR P w K mg base CX0 k f sp ∧ mg x = some (.ref f) ∧ PySem.W.keepIn K (.ref f) = true
theorem pe_r {X : Cx} {k j : Nat} {x : Str} {sp : Sp} {p pos : Pos} {e : Expr} {es : List Expr} {t : TA} (c : CalR X.prog X.w X.K X.mg X.base k x sp) (hr : Room j X.A) (hk : k ≤ j) (hg : Gl X x) (ha : PA X (e :: es) t)
    (hdb : (x == ("__debug__" : Str)) = false := by decide) (he : starEach (e :: es) X.env = (false, eval e X.env) :: starEach es X.env := by rfl) (hpl : (backTo pos (starEach es X.env)).any (·.1) = false := by rfl) :
    PE X (.Call (.Name x p) (e :: es) [] pos) (fun σ H Q => t σ H fun vs H1 => sp vs H1 Q E0) := by
  obtain ⟨f, F, hm, kp⟩ := c.ex
  exact ⟨fun pins s σ H Q I h => wpAny_Call_Name_kw (ld_glob I hg hm (PySem.W.callWith_K (h₀ := X.base) I.ok.mod.kin kp (thn (ha.run pos pins s σ H _ I h) fun us s1 ⟨vs, H1, I1, r, q⟩ => ⟨I1.kIn, wpAny_call (run_fnR F (hr.mono hk) pass0 I1 r q)⟩) he hpl) hdb)⟩
theorem pe_r0 {X : Cx} {k j : Nat} {x : Str} {sp : Sp} {p pos : Pos} (c : CalR X.prog X.w X.K X.mg X.base k x sp) (hr : Room j X.A) (hk : k ≤ j) (hg : Gl X x) (hdb : (x == ("__debug__" : Str)) = false := by decide) :
    PE X (.Call (.Name x p) [] [] pos) (fun _ H Q => sp [] H Q E0) := by
  obtain ⟨f, F, hm, kp⟩ := c.ex
  exact ⟨fun pins s σ H Q I h => wpAny_Call_Name_kw (ld_glob I hg hm (PySem.W.callWith_K0 I.kIn kp (wpAny_call (run_fnR (us := []) F (hr.mono hk) pass0 I .nil h))) hdb)⟩
end
/-- recipes that may be put together: no empty pieces, not many letters -/
structure JOk (rs : List Rc) : Prop where
  many : rs.length ≤ 10
  len : ∀ r ∈ rs, r.length ≤ 100
  lt : lets rs.flatten ≤ 100000
  low : lowR rs.flatten
  ne : NE rs.flatten
def spJoined : Sp := fun vs H Q _ => ∃ rs : List Rc, TpAll H vs (rs.map Rc.d) ∧ JOk rs ∧ ∀ (t : Addr) H', Same H H' → H' t = some (.tup ((normal rs.flatten).map Pt.v)) → Q (.ref t) H'
theorem sc_joined : FnScope ["recipes", "parts", "recipe", "part"] (([] : List Str) ++ (["recipes"] : List Str)) (fnScope st_joined_) := fnScope_by (by decide +kernel)
section
variable {P : Program} {w : World} {K : PySem.W.Frag} {mg : Str → Option Value} {base : Heap} {f : Addr} {oc kV dc pm cd ct : Value} {od an : Option Addr} {sl : Array (Option Value)}
theorem cal_joined_ (l : K.lookup f = some ⟨oc, od, .func (PySem.W.fnOf "joined" "joined" (C8.fnArgs st_joined_) (fnBody st_joined_) (fnScope st_joined_) .none kV dc pm an cd ct), sl⟩) (hc : PySem.W.codeIn K cd "joined" = true) (hk : PySem.W.keepIn K (.ref f) = true) (hm : mg "joined" = some (.ref f)) (B : BN2 mg) :
    CalR P w K mg base 1 "joined" spJoined := by
  refine ⟨f, FnR.imp (StX.fn_star (ps := []) (k := 0) (CX := CX0) (sp := fun vs H Q _ => ∃ (a : Addr) (xs : List V) (rs : List Rc), vs = [.ref a] ∧ H a = some (.tup xs) ∧ TpAll H xs (rs.map Rc.d) ∧ JOk rs ∧ ∀ (t : Addr) H', Same H H' → H' t = some (.tup ((normal rs.flatten).map Pt.v)) → Q (.ref t) H') l hc sc_joined StX.cxUp_none (fun us rest hl => ?_) (fun A outer s H vs Q E hr h => ?_)) ?_, hm, hk⟩
  · cases us with
    | cons a r => cases hl
    | nil => cases rest with
      | nil => rfl
      | cons a r => rfl
  · obtain ⟨a, xs, rs, rfl, ha, h2, J, k⟩ := h
    suffices made : ∃ t, PSs (cxOf CX0 P w K mg base ["recipes", "parts", "recipe", "part"] "joined" (fnScope st_joined_) f cd A outer s H E).nox (fnBody st_joined_) t ∧ t { nx := fun _ H' => Q .non H', rt := Q } (L2.start ["recipes", "parts", "recipe", "part"] [.ref a]) H by
      obtain ⟨t, h, q⟩ := made
      exact ⟨t, h.nox, q⟩
    refine ⟨_, pss_cons (ps_set (i := 1) sc_joined.nd rfl (Or.inl rfl) (pe_lst pa_nil))
      (pss_cons (ps_for PassesOwn.never rfl (pi_tup (pv 0)) (pg_name (i := 2) sc_joined.nd rfl (Or.inl rfl))
        (pss_one (ps_for PassesOwn.never rfl (pi_tup (pv 2)) (pg_name (i := 3) sc_joined.nd rfl (Or.inl rfl))
          (pss_one (ps_if (PW.pt (pw_and (pt_val (pe_callB call_isi (by rfl) B.isi (by decide +kernel) (pa_cons (pv 3) (pa_cons (pe_bltn (v := .ty "str") (by rfl) B.str (by decide +kernel) rfl) pa_nil))))
              (pw_and (pt_truth (pv 1) (fun _ => rfl)) (pw_and1 (pt_val (pe_callB call_isi (by rfl) B.isi (by decide +kernel) (pa_cons (pe_ix ix_list (pv 1) (pe_un un_neg pe_int) (fun _ _ => rfl)) (pa_cons (pe_bltn (v := .ty "str") (by rfl) B.str (by decide +kernel) rfl) pa_nil))))))))
            (pss_one (ps_asg (pe_op op_add_str (pe_ix ix_list (pv 1) (pe_un un_neg pe_int) (fun _ _ => rfl)) (pv 3)) (pg_sub (pv 1) (pe_un un_neg pe_int) set_list)))
            (pss_one (ps_expr (pe_bm PySem.F.plainAttrs_list PySem.F.slot_list_append PySem.F.type_list_append mt_append (pv 1) (pa_cons (pv 3) pa_nil)))))))))
      (pss_one (ps_ret (pe_callTy call_tuple_of (by rfl) B.tuple (by decide +kernel) (pa_cons (pv 1) pa_nil))))), ?_⟩
    refine ⟨Nat.zero_le _, fun q hq => ?_⟩
    have lenx : xs.length = rs.length := by rw [h2.len, List.length_map]
    -- what is made so far is never too large
    have inv : ∀ f : Rc, (∃ g, rs.flatten = f ++ g) → lets (normal f) ≤ 100000 ∧ (normal f).length ≤ 1000 := fun f ⟨g, e⟩ => by
      obtain ⟨_, h2, h3, _⟩ := normal_ok f []
      have e1 : lets (normal f) = 0 + lets f := h2
      have e2 : (normal f).length ≤ 0 + f.length := h3
      have e3 := J.lt
      rw [e, lets_app] at e3
      have e4 : rs.flatten.length ≤ rs.length * 100 := by
        have z := flat_len (g := fun r : Rc => r) (n := 100) rs J.len
        have z2 : rs.flatMap (fun r => r) = rs.flatten := by rw [List.flatMap_def, List.map_id']
        rw [z2] at z
        exact z
      rw [e, List.length_append] at e4
      have e5 := J.many
      omega
    refine ⟨_, rfl, a, rfl, ⟨_, SqT.of (same_new hq _ _ ha)⟩, for_tup (K := K) (a := a) (xs := xs) (fun i σ H' => (∃ v2 v3 : Option V, σ = [some (.ref a), some (.ref q), v2, v3]) ∧ Same H H' ∧ H' q = some (.lst ((normal (rs.take i).flatten).map Pt.v)))
      ⟨⟨_, _, rfl⟩, same_new hq, upd_same⟩ (fun i σ H' _ h => SqT.of (h.2.1 _ _ ha)) ?_ ?_⟩
    · rintro i x σ H1 hi ⟨⟨v2, v3, rfl⟩, s1, hL⟩
      have hlt : i < rs.length := by
        have z := (List.getElem?_eq_some_iff.mp hi).1
        omega
      have hg := List.getElem?_eq_getElem hlt
      obtain ⟨v, hv, tv⟩ := h2.at hg
      rw [hi] at hv
      cases hv
      have sub : ∀ j, ∃ g, rs.flatten = ((rs.take i).flatten ++ rs[i].take j) ++ g := fun j => by
        refine ⟨rs[i].drop j ++ (rs.drop (i + 1)).flatten, ?_⟩
        have e : rs = rs.take i ++ rs[i] :: rs.drop (i + 1) := (List.take_append_drop i rs).symm.trans (by rw [List.drop_eq_getElem_cons hlt])
        have e2 : rs.flatten = (rs.take i).flatten ++ (rs[i] ++ (rs.drop (i + 1)).flatten) := by
          have z := congrArg List.flatten e
          rw [List.flatten_append, List.flatten_cons] at z
          exact z
        rw [e2, List.append_assoc, ← List.append_assoc (rs[i].take j), List.take_append_drop]
      have mem := List.getElem_mem hlt
      generalize hr' : rs[i] = r at *
      obtain ⟨ra, rx, rfl, r1, r2⟩ := tv.tup_inv
      obtain rfl := tpAll_parts r2
      refine ⟨_, rfl, ra, rfl, ⟨_, SqT.of (s1 _ _ r1)⟩, for_tup (K := K) (a := ra) (xs := r.map Pt.v) (fun j σ H' => (∃ v3 : Option V, σ = [some (.ref a), some (.ref q), some (.ref ra), v3]) ∧ Same H H' ∧ H' q = some (.lst ((normal ((rs.take i).flatten ++ r.take j)).map Pt.v)))
        ⟨⟨_, rfl⟩, s1, ?_⟩ (fun j σ H' _ h => SqT.of (h.2.1 _ _ r1)) ?_ ?_⟩
      · rw [hL]
        show _ = some (HO.lst ((normal ((rs.take i).flatten ++ [])).map Pt.v))
        rw [List.append_nil]
      · rintro j y σ H2 hj ⟨⟨v3', rfl⟩, s2, hL2⟩
        obtain ⟨u, hu, rfl⟩ : ∃ u, r[j]? = some u ∧ y = Pt.v u := by
          rw [List.getElem?_map] at hj
          cases e : r[j]? with
          | none =>
            rw [e] at hj
            cases hj
          | some u =>
            rw [e] at hj
            exact ⟨u, rfl, (Option.some.inj hj).symm⟩
        have step : normal ((rs.take i).flatten ++ r.take (j + 1)) = nstep (normal ((rs.take i).flatten ++ r.take j)) u := by
          rw [List.take_add_one, hu, ← List.append_assoc]
          exact normal_snoc _ u
        have uin : u ∈ rs.flatten := List.mem_flatten.mpr ⟨r, mem, List.mem_of_getElem? hu⟩
        obtain ⟨b1, b2⟩ := inv _ (sub j)
        have b3 := (inv _ (sub (j + 1))).1
        rw [step] at b3 ⊢
        generalize normal ((rs.take i).flatten ++ r.take j) = g at *
        have push : nstep g u = g ++ [u] → ∃ (l : Addr) (zs : List V) (y : V), V.ref q = V.ref l ∧ [u.v] = [y] ∧ H2 l = some (.lst zs) ∧ zs.length < sizeLine ∧ ((∃ v3 : Option V, [some (V.ref a), some (.ref q), some (.ref ra), some u.v] = [some (.ref a), some (.ref q), some (.ref ra), v3]) ∧ Same H (upd H2 l (.lst (zs ++ [y]))) ∧ upd H2 l (.lst (zs ++ [y])) q = some (.lst ((nstep g u).map Pt.v))) := fun e => by
          refine ⟨q, _, _, rfl, rfl, hL2, ?_, ⟨_, rfl⟩, Same.put s2 hq, ?_⟩
          · rw [List.length_map]
            exact lt_line (by omega)
          · rw [upd_same, e, List.map_append]
            rfl
        obtain ⟨ty, tb, t1, t2, t3, t4⟩ := isi_pt (K := K) (H := H2) u
        refine ⟨_, rfl, u.v, _, ty, _, tb, rfl, .ty _, t1, t2, _, rfl, ?_⟩
        cases tb with
        | false =>
          obtain ⟨m, rfl⟩ := t4 rfl
          exact iteF (iteF ⟨_, rfl, .inl ⟨rfl, _, SqL.of hL2⟩, _, rfl, push rfl⟩)
        | true =>
          obtain ⟨z, rfl⟩ := t3 rfl
          have zne : z ≠ "" := fun e => by
            have := J.ne z uin
            rw [len_empty e] at this
            omega
          refine iteT ⟨_, rfl, _, .inl ⟨_, SqL.of hL2, rfl⟩, ?_⟩
          rcases List.eq_nil_or_concat g with rfl | ⟨g', l, rfl⟩
          · exact iteF (iteF ⟨_, rfl, .inl ⟨rfl, _, SqL.of hL2⟩, _, rfl, push (by rw [nstep_first, if_neg zne]; rfl)⟩)
          · rw [List.concat_eq_append] at *
            have en : (!((g' ++ [l]).map Pt.v).isEmpty) = true := by
              rw [List.map_append]
              cases g'.map Pt.v <;> rfl
            rw [en]
            refine iteT ?_
            have hL3 : H2 q = some (.lst (g'.map Pt.v ++ [l.v])) := by
              rw [hL2, List.map_append]
              rfl
            obtain ⟨ty2, tb2, u1, u2, u3, u4⟩ := isi_pt (K := K) (H := H2) l
            refine ⟨_, rfl, _, rfl, q, _, _, l.v, rfl, rfl, SqL.of hL3, atI_last _ _, l.v, _, ty2, _, tb2, rfl, .ty _, u1, u2, _, rfl, ?_⟩
            cases tb2 with
            | false =>
              obtain ⟨m, rfl⟩ := u4 rfl
              exact iteF ⟨_, rfl, .inl ⟨rfl, _, SqL.of hL2⟩, _, rfl, push (by rw [nstep_behind, if_neg zne])⟩
            | true =>
              obtain ⟨y', rfl⟩ := u3 rfl
              have hsz : y'.length + z.length ≤ sizeLine := by
                rw [nstep_glue, lets_app, lets_one] at b3
                have e3 : (Pt.s (y' ++ z)).let = y'.length + z.length := len_cat y' z
                exact Nat.le_trans (show y'.length + z.length ≤ 100000 by omega) (by decide)
              refine iteT ⟨_, rfl, _, rfl, q, _, _, .str y', rfl, rfl, SqL.of hL3, atI_last _ _, _, rfl, y', z, rfl, rfl, hsz, _, rfl, _, rfl, q, _, _, g'.length, rfl, rfl, hL3, ?_, ?_⟩
              · rw [List.length_append, List.length_map, List.length_singleton]
                unfold ixN
                rw [if_neg (by omega), if_pos (by omega)]
                refine congrArg some ?_
                omega
              · refine ⟨⟨_, rfl⟩, Same.put s2 hq, ?_⟩
                rw [upd_same, nstep_glue, List.map_append]
                refine congrArg some (congrArg HO.lst ?_)
                rw [List.set_append_right _ _ (by rw [List.length_map]; exact Nat.le_refl _), List.length_map, Nat.sub_self]
                rfl
      · rintro σ H2 ⟨⟨v3', rfl⟩, s2, hL2⟩
        refine ⟨⟨_, _, rfl⟩, s2, ?_⟩
        rw [hL2, List.length_map, List.take_length, List.take_add_one, hg, List.flatten_append]
        have e : (some r).toList.flatten = r := by
          show [r].flatten = r
          rw [List.flatten_cons, List.flatten_nil, List.append_nil]
        rw [e]
    · rintro σ H1 ⟨⟨v2, v3, rfl⟩, s1, hL⟩
      rw [lenx, List.take_length] at hL
      exact ⟨_, rfl, q, _, rfl, .inl ⟨SqL.of hL, fun t ht => k t _ (Same.trans s1 (same_new ht)) upd_same⟩⟩
  · rintro vs H Q E ⟨rs, h2, J, k⟩
    refine ⟨[], vs, rfl, rfl, ?_, fun p hp => ⟨p, vs, rs, rfl, upd_same, h2.mono (tk_new hp), J, fun t H' s' ht => k t H' (Same.trans (same_new hp) s') ht⟩⟩
    rw [h2.len, List.length_map]
    exact Nat.le_trans J.many (by decide)
end

/-! ### drawn writers of some size -/
def spAt : Sp := fun vs H Q _ => ∃ (x y : V) (i : Nat) (ds : List PyData) (d : PyData), vs = [x, .int i, y] ∧ Tp H x (.tuple ds) ∧ Tp H y d ∧ i < ds.length ∧ ds.length ≤ 1000 ∧ ∀ (v : V) H', Same H H' → Tp H' v (.tuple (ds.set i d)) → Q v H'
theorem sc_at : FnScope ["rows", "place", "thing"] ["rows", "place", "thing"] (fnScope st_law_at) := fnScope_by (by decide +kernel)
theorem set_parts {α : Type} {d : α} : ∀ (l : List α) (i : Nat), i < l.length → l.set i d = l.take i ++ [d] ++ l.drop (i + 1)
  | x :: r, 0, _ => rfl
  | x :: r, i + 1, h => by
    have q := set_parts (d := d) r i (Nat.lt_of_succ_lt_succ h)
    rw [List.set_cons_succ, q]
    rfl
/-- a drawn writer: sizes, and as many kinds -/
structure DSz (k : Nat) (W : Wr) : Prop where
  sz : WSz W
  k1 : 1 ≤ k
  b3 : W.begins.length ≤ 3
  r12 : W.rules.length ≤ 12
  rows : ∀ row ∈ W.rules, row.length = k
  ends : W.ends.length = W.rules.length
theorem rok_sz {r : Rc} {n : Nat} (h : ROkE r) (hb : ∀ i ∈ bufs r, i < n) (hn : n ≤ 100) : RSz r := ⟨by have := h.lt; omega, h.low, by have := h.len; omega, fun i hi => by have := hb i hi; omega⟩
theorem wok_sz {k S B : Nat} {W : Wr} (h : WOk k S B W) (hS : 1 ≤ S) (hS2 : S ≤ 12) (hB : 1 ≤ B) (hB2 : B ≤ 3) (hk : 1 ≤ k) (hk2 : k ≤ 4) : DSz k W := by
  refine ⟨⟨by rw [h.b1]; exact hB, by rw [h.b1]; omega, fun z hz => ⟨Nat.le_trans (h.b2 z hz).len (by decide), (h.b2 z hz).low⟩, by rw [h.r1]; exact hS, by rw [h.r1]; omega, fun row hrow => ?_, by rw [h.e1]; omega, fun e he q hq => ?_⟩, hk, by rw [h.b1]; exact hB2, by rw [h.r1]; exact hS2, fun row hrow => (h.r2 row hrow).1, by rw [h.e1, h.r1]⟩
  · obtain ⟨r1, r2⟩ := h.r2 row hrow
    refine ⟨by omega, fun e he t fs ee => ?_⟩
    obtain ⟨t1, t2⟩ := r2 e he t fs ee
    exact ⟨by omega, by rw [t2.len]; omega, fun r hr => rok_sz (t2.each r hr).e (flat_lt t2.lt hr) (by omega)⟩
  · have z := h.e2 e he q hq
    exact rok_sz z.ok z.lt (by omega)
def spSized : Sp := fun vs H Q _ => ∃ p c : Addr, vs = [.ref p] ∧ Pen H p c ∧ ∀ (W : Wr) (v : V) H', WSz W → Kp p c H H' → Tp H' v W.d → Q v H'
theorem sc_sized : FnScope ["pen", "kinds", "writer", "many", "size", "option", "state", "kind", "half", "fills", "entry"] ["pen"] (fnScope st_law_sized) := fnScope_by (by decide +kernel)
/-- one of some written numbers -/
theorem one_num {ns : List Int} {x : V} (h : x ∈ ns.map V.int) : ∃ z ∈ ns, x = .int z := by
  obtain ⟨z, h1, h2⟩ := List.mem_map.mp h
  exact ⟨z, h1, h2.symm⟩
theorem rep_one {α : Type} (x : α) : ∀ n : Nat, (List.replicate n [x]).flatten = List.replicate n x
  | 0 => rfl
  | n + 1 => by
    rw [List.replicate_succ, List.flatten_cons, rep_one x n]
    rfl
theorem tpAll_rep {H : Hp} {x : V} {d : PyData} (h : Tp H x d) : ∀ n : Nat, TpAll H (List.replicate n x) (List.replicate n d)
  | 0 => .nil
  | n + 1 => .cons h (tpAll_rep h n)
theorem rsz_ab {n m : Nat} (hn : n + m ≤ 300) : RSz [.s (rowOf 97 n), .b 0, .s (rowOf 98 m)] := by
  refine ⟨?_, fun q hq => ?_, (by show 3 ≤ 10; decide), fun i hi => ?_⟩
  · show (rowOf 97 n).length + (0 + ((rowOf 98 m).length + 0)) ≤ 300
    rw [rowOf_len, rowOf_len]
    omega
  · rcases List.mem_cons.mp hq with rfl | hq
    · exact rowOf_low (by decide)
    · rcases List.mem_cons.mp hq with rfl | hq
      · exact True.intro
      · rw [List.mem_singleton.mp hq]
        exact rowOf_low (by decide)
  · have hi' : i ∈ [0] := hi
    rw [List.mem_singleton.mp hi']
    decide
theorem rsz_a {n : Nat} (hn : n ≤ 300) : RSz [.s (rowOf 97 n)] := by
  refine ⟨?_, fun q hq => ?_, (by show 1 ≤ 10; decide), fun i hi => by cases hi⟩
  · show (rowOf 97 n).length + 0 ≤ 300
    rw [rowOf_len]
    omega
  · rw [List.mem_singleton.mp hq]
    exact rowOf_low (by decide)
theorem rsz_b {n : Nat} (hn : n ≤ 300) : RSz [.b 0, .s (rowOf 98 n)] := by
  refine ⟨?_, fun q hq => ?_, (by show 2 ≤ 10; decide), fun i hi => ?_⟩
  · show 0 + ((rowOf 98 n).length + 0) ≤ 300
    rw [rowOf_len]
    omega
  · rcases List.mem_cons.mp hq with rfl | hq
    · exact True.intro
    · rw [List.mem_singleton.mp hq]
      exact rowOf_low (by decide)
  · have hi' : i ∈ [0] := hi
    rw [List.mem_singleton.mp hi']
    decide
theorem rsz_nil : RSz [] := ⟨Nat.zero_le _, fun q hq => (by cases hq), Nat.zero_le _, fun i hi => (by cases hi)⟩
theorem set_map {α β : Type} (g : α → β) (l : List α) (i : Nat) (x : α) : (l.map g).set i (g x) = (l.set i x).map g := (List.map_set).symm
section
variable {P : Program} {w : World} {K : PySem.W.Frag} {mg : Str → Option Value} {base : Heap} {f : Addr} {fd : FuncData}
theorem cal_at (F : C8.Def K mg "_law_at" st_law_at f fd) (b : Binds K fd ["rows", "place", "thing"] []) : Cal P w K mg base 1 "_law_at" spAt [] := by
  refine cal0 F b .nil sc_at (fun vs H Q E h => ?_) (fun cdv A outer s H vs Q E hr h => ?_)
  · obtain ⟨x, y, i, ds, d, rfl, _⟩ := h
    rfl
  · obtain ⟨x, y, i, ds, d, rfl, hx, hy, hi, hl, k⟩ := h
    refine ⟨_, pss_one (ps_ret (pe_op op_catA (pe_op op_catA (pe_slice sl_tupA (pv 0) po_none (po_some (pv 1))) (pe_tup (pa_cons (pv 2) pa_nil))) (pe_slice sl_tupA (pv 0) (po_some (pe_op op_add (pv 1) pe_int)) po_none))), ?_⟩
    have lt : (ds.take i).length ≤ 1000 := by rw [List.length_take]; omega
    have ld : (ds.drop (i + 1)).length ≤ 1000 := by rw [List.length_drop]; omega
    refine ⟨_, rfl, _, rfl, _, rfl, sl_take hx (Nat.le_of_lt hi) fun v1 H1 s1 t1 => ?_⟩
    refine ⟨_, rfl, (by show 1 ≤ sizeLine; decide), fun u hu => ?_⟩
    have s1u := Same.trans s1 (same_new (o := .tup [y]) hu)
    refine cat_tp (es := [d]) (t1.mono (tk_new hu)) (.tup upd_same (.cons (hy.mono (Same.tk s1u)) .nil)) (Nat.le_trans lt (by decide)) (by show 1 ≤ 10000; decide) fun v2 H2 s2 t2 => ?_
    have s12 := Same.trans s1u s2
    have e : ((i : Int) + 1) = ((i + 1 : Nat) : Int) := by omega
    refine ⟨_, rfl, _, rfl, _, _, rfl, rfl, _, rfl, ?_⟩
    rw [e]
    show rSlA K x (some ((i + 1 : Nat) : Int)) none H2 (fun y' H3 => rCatA K v2 y' H3 Q)
    refine sl_drop (k := i + 1) (hx.mono (Same.tk s12)) hi fun v3 H3 s3 t3 => ?_
    refine cat_tp (t2.mono (Same.tk s3)) t3 (by rw [List.length_append]; exact Nat.le_trans (Nat.add_le_add lt (Nat.le_refl 1)) (by decide)) (Nat.le_trans ld (by decide)) fun v4 H4 s4 t4 => ?_
    refine k v4 H4 (Same.trans (Same.trans s12 s3) s4) ?_
    rw [set_parts ds i hi]
    exact t4
end

theorem Tp.w_inv {H : Hp} {v : V} {W : Wr} (h : Tp H v W.d) : ∃ (a : Addr) (vb vr ve : V), v = .ref a ∧ H a = some (.tup [vb, vr, ve]) ∧ Tp H vb (.tuple (W.begins.map .str)) ∧ Tp H vr (.tuple (W.rules.map rowD)) ∧ Tp H ve (.tuple (W.ends.map endD)) := by
  obtain ⟨a, xs, rfl, h1, h2⟩ := h.tup_inv
  cases h2 with
  | @cons vb x2 _ _ tb h2 =>
  cases h2 with
  | @cons vr x3 _ _ tr h3 =>
  cases h3 with
  | @cons ve x4 _ _ te h4 =>
  cases h4
  exact ⟨a, vb, vr, ve, rfl, h1, tb, tr, te⟩
theorem one_nat {ms : List Nat} {x : V} (h : x ∈ ms.map fun n => V.int (n : Nat)) : ∃ n ∈ ms, x = .int n := by
  obtain ⟨z, h1, h2⟩ := List.mem_map.mp h
  exact ⟨z, h1, h2.symm⟩
theorem tpAll_rep2 {H : Hp} {x : V} {d : PyData} (h : Tp H x d) (n : Nat) : TpAll H (List.replicate (n : Int).toNat [x]).flatten (List.replicate n d) := by
  rw [Int.toNat_natCast, rep_one]
  exact tpAll_rep h n
theorem sz_menu : ∀ n ∈ ([23, 24, 25, 240] : List Nat), 23 ≤ n ∧ n ≤ 240 := by decide
theorem kd_menu : ∀ n ∈ ([1, 3, 3, 4] : List Nat), 1 ≤ n ∧ n ≤ 4 := by decide
theorem st_menu : ∀ n ∈ ([1, 3] : List Nat), 1 ≤ n ∧ n ≤ 3 := by decide
theorem bf_menu : ∀ n ∈ ([2, 2, 3] : List Nat), 1 ≤ n ∧ n ≤ 3 := by decide
theorem mn_menu : ∀ n ∈ ([4, 5, 12] : List Nat), 4 ≤ n ∧ n ≤ 12 := by decide
theorem mem_set {α : Type} {l : List α} {i : Nat} {x y : α} (h : y ∈ l.set i x) : y ∈ l ∨ y = x := by
  rcases List.mem_or_eq_of_mem_set h with h | h
  · exact .inl h
  · exact .inr h
theorem dsz_rep {k : Nat} {W : Wr} {row : List (Option (Nat × List Rc))} {e : Option Rc} {n : Nat} (h : DSz k W) (h4 : 4 ≤ n) (h12 : n ≤ 12) (hr : row ∈ W.rules) (he : e ∈ W.ends) : DSz k ⟨W.begins, List.replicate n row, List.replicate n e⟩ := by
  refine ⟨⟨h.sz.b1, h.sz.b2, h.sz.b3, by show 1 ≤ (List.replicate n row).length; rw [List.length_replicate]; omega, by show (List.replicate n row).length ≤ 20; rw [List.length_replicate]; omega, fun q hq => ?_, by show (List.replicate n e).length ≤ 20; rw [List.length_replicate]; omega, fun q hq => ?_⟩, h.k1, h.b3, by show (List.replicate n row).length ≤ 12; rw [List.length_replicate]; exact h12, fun q hq => ?_, ?_⟩
  · rw [List.eq_of_mem_replicate hq]
    exact h.sz.r3 row hr
  · rw [List.eq_of_mem_replicate hq]
    exact h.sz.e2 e he
  · rw [List.eq_of_mem_replicate hq]
    exact h.rows row hr
  · show (List.replicate n e).length = (List.replicate n row).length
    rw [List.length_replicate, List.length_replicate]
theorem wsz_begin {W : Wr} (h : WSz W) {i : Nat} {z : Str} (hz : Tx 300 z) : WSz ⟨W.begins.set i z, W.rules, W.ends⟩ :=
  ⟨by show 1 ≤ (W.begins.set i z).length; rw [List.length_set]; exact h.b1, by show (W.begins.set i z).length ≤ 10; rw [List.length_set]; exact h.b2, fun y hy => (mem_set hy).elim (h.b3 y) (fun e => e ▸ hz), h.r1, h.r2, h.r3, h.e1, h.e2⟩
theorem wsz_end {W : Wr} (h : WSz W) {i : Nat} {r : Rc} (hz : RSz r) : WSz ⟨W.begins, W.rules, W.ends.set i (some r)⟩ :=
  ⟨h.b1, h.b2, h.b3, h.r1, h.r2, h.r3, by show (W.ends.set i (some r)).length ≤ 20; rw [List.length_set]; exact h.e1, fun y hy q hq => (mem_set hy).elim (fun m => h.e2 y m q hq) (fun e => by rw [e] at hq; cases hq; exact hz)⟩
theorem wsz_row {W : Wr} (h : WSz W) {i j : Nat} {row : List (Option (Nat × List Rc))} {e : Option (Nat × List Rc)} (hr : row ∈ W.rules) (he : ESz e) : WSz ⟨W.begins, W.rules.set i (row.set j e), W.ends⟩ :=
  ⟨h.b1, h.b2, h.b3, by show 1 ≤ (W.rules.set i (row.set j e)).length; rw [List.length_set]; exact h.r1, by show (W.rules.set i (row.set j e)).length ≤ 20; rw [List.length_set]; exact h.r2,
    fun y hy => (mem_set hy).elim (h.r3 y) (fun z => by
      rw [z]
      refine ⟨by rw [List.length_set]; exact (h.r3 row hr).1, fun q hq => (mem_set hq).elim ((h.r3 row hr).2 q) (fun z2 => z2 ▸ he)⟩), h.e1, h.e2⟩
section
variable {P : Program} {w : World} {K : PySem.W.Frag} {mg : Str → Option Value} {base : Heap} {f : Addr} {fd : FuncData}
theorem cal_sized (F : C8.Def K mg "_law_sized" st_law_sized f fd) (b : Binds K fd ["pen"] []) (B : BN3 mg) (Cd : Cal P w K mg base 2 "_law_draw" spDraw []) (Co : Cal P w K mg base 3 "_law_one_of" (spOne K) []) (Cw : Cal P w K mg base 7 "_law_writer" spWriter []) (Ca : Cal P w K mg base 1 "_law_at" spAt []) : Cal P w K mg base 8 "_law_sized" spSized [] := by
  refine cal0 F b .nil sc_sized (fun vs H Q E h => ?_) (fun cdv A outer s H vs Q E hr h => ?_)
  · obtain ⟨p, c, rfl, _⟩ := h
    rfl
  · obtain ⟨p, c, rfl, hP, k⟩ := h
    refine ⟨_, pss_cons (ps_set (i := 1) sc_sized.nd rfl (Or.inl rfl) (pe_c Co hr (by decide) (by rfl) (pa_cons (pv 0) (pa_cons (pe_lst (pa_cons pe_int (pa_cons pe_int (pa_cons pe_int (pa_cons pe_int pa_nil))))) pa_nil))))
      (pss_cons (ps_set (i := 2) sc_sized.nd rfl (Or.inl rfl) (pe_c Cw hr (by decide) (by rfl) (pa_cons (pv 0) (pa_cons (pv 1) (pa_cons (pe_c Co hr (by decide) (by rfl) (pa_cons (pv 0) (pa_cons (pe_lst (pa_cons pe_int (pa_cons pe_int pa_nil))) pa_nil))) (pa_cons (pe_c Co hr (by decide) (by rfl) (pa_cons (pv 0) (pa_cons (pe_lst (pa_cons pe_int (pa_cons pe_int (pa_cons pe_int pa_nil)))) pa_nil))) pa_nil))))))
      (pss_cut (ps_if (pt_cmpR op_eq (pe_c Cd hr (by decide) (by rfl) (pa_cons (pv 0) (pa_cons pe_int pa_nil))) pe_int (nomark _))
          (pss_cons (ps_set (i := 3) sc_sized.nd rfl (Or.inl rfl) (pe_c Co hr (by decide) (by rfl) (pa_cons (pv 0) (pa_cons (pe_lst (pa_cons pe_int (pa_cons pe_int (pa_cons pe_int pa_nil)))) pa_nil))))
          (pss_one (ps_set (i := 2) sc_sized.nd rfl (Or.inl rfl) (pe_tup (pa_cons (pe_ix ix_tup (pv 2) pe_int (fun _ _ => rfl)) (pa_cons (pe_op op_repT (pe_tup (pa_cons (pe_ix ix_tup (pe_ix ix_tup (pv 2) pe_int (fun _ _ => rfl)) pe_int (fun _ _ => rfl)) pa_nil)) (pv 3)) (pa_cons (pe_op op_repT (pe_tup (pa_cons (pe_ix ix_tup (pe_ix ix_tup (pv 2) pe_int (fun _ _ => rfl)) pe_int (fun _ _ => rfl)) pa_nil)) (pv 3)) pa_nil))))))) pss_nil)
      (pss_cons (ps_set (i := 4) sc_sized.nd rfl (Or.inl rfl) (pe_c Co hr (by decide) (by rfl) (pa_cons (pv 0) (pa_cons (pe_lst (pa_cons pe_int (pa_cons pe_int (pa_cons pe_int (pa_cons pe_int pa_nil))))) pa_nil))))
      (pss_cons (ps_par3 (i := 5) (j := 6) (l := 7) rfl sc_sized.nd rfl rfl rfl (by decide) (by decide) (by decide) rfl rfl rfl (pa_cons (pe_c Cd hr (by decide) (by rfl) (pa_cons (pv 0) (pa_cons pe_int pa_nil))) (pa_cons (pe_c Cd hr (by decide) (by rfl) (pa_cons (pv 0) (pa_cons (pe_callB call_len_seq (by rfl) B.len PySem.boot_len (pa_cons (pe_ix ix_tup (pv 2) pe_int (fun _ _ => rfl)) pa_nil)) pa_nil))) (pa_cons (pe_c Cd hr (by decide) (by rfl) (pa_cons (pv 0) (pa_cons (pv 1) pa_nil))) pa_nil))) (by rfl))
      (pss_cons (ps_set (i := 8) sc_sized.nd rfl (Or.inl rfl) (pe_op op_fdiv (pv 4) pe_int))
      (pss_cons (ps_if (pt_cmpR op_eq (pv 5) pe_int (nomark _)) (pss_one (ps_ret (pe_tup (pa_cons (pe_c Ca hr (by decide) (by rfl) (pa_cons (pe_ix ix_tup (pv 2) pe_int (fun _ _ => rfl)) (pa_cons (pe_op op_sub (pe_callB call_len_seq (by rfl) B.len PySem.boot_len (pa_cons (pe_ix ix_tup (pv 2) pe_int (fun _ _ => rfl)) pa_nil)) pe_int) (pa_cons (pe_op op_mulS pe_str (pv 4)) pa_nil)))) (pa_cons (pe_ix ix_tup (pv 2) pe_int (fun _ _ => rfl)) (pa_cons (pe_ix ix_tup (pv 2) pe_int (fun _ _ => rfl)) pa_nil)))))) pss_nil)
      (pss_cons (ps_if (pt_cmpR op_eq (pv 5) pe_int (nomark _)) (pss_one (ps_ret (pe_tup (pa_cons (pe_ix ix_tup (pv 2) pe_int (fun _ _ => rfl)) (pa_cons (pe_ix ix_tup (pv 2) pe_int (fun _ _ => rfl)) (pa_cons (pe_c Ca hr (by decide) (by rfl) (pa_cons (pe_ix ix_tup (pv 2) pe_int (fun _ _ => rfl)) (pa_cons (pv 6) (pa_cons (pe_tup (pa_cons (pe_op op_mulS pe_str (pv 8)) (pa_cons pe_int (pa_cons (pe_op op_mulS pe_str (pe_op op_sub (pv 4) (pv 8))) pa_nil)))) pa_nil)))) pa_nil)))))) pss_nil)
      (pss_cons (ps_if (pt_cmpR op_eq (pv 5) pe_int (nomark _))
          (pss_cons (ps_set (i := 9) sc_sized.nd rfl (Or.inl rfl) (pe_lst (pa_cons (pe_tup (pa_cons (pe_op op_mulS pe_str (pv 8)) pa_nil)) (pa_cons (pe_tup (pa_cons pe_int (pa_cons (pe_op op_mulS pe_str (pe_op op_sub (pv 4) (pv 8))) pa_nil))) (pa_cons (pe_tup pa_nil) pa_nil)))))
          (pss_cons (ps_set (i := 10) sc_sized.nd rfl (Or.inl rfl) (pe_tup (pa_cons (pv 6) (pa_cons (pe_callTy call_tuple_of (by rfl) B.tuple (by decide +kernel) (pa_cons (pe_slice sl_list (pv 9) po_none (po_some (pe_callB call_len_seq (by rfl) B.len PySem.boot_len (pa_cons (pe_ix ix_tup (pv 2) pe_int (fun _ _ => rfl)) pa_nil)))) pa_nil)) pa_nil))))
          (pss_one (ps_ret (pe_tup (pa_cons (pe_ix ix_tup (pv 2) pe_int (fun _ _ => rfl)) (pa_cons (pe_c Ca hr (by decide) (by rfl) (pa_cons (pe_ix ix_tup (pv 2) pe_int (fun _ _ => rfl)) (pa_cons (pv 6) (pa_cons (pe_c Ca hr (by decide) (by rfl) (pa_cons (pe_ix ix_tup (pe_ix ix_tup (pv 2) pe_int (fun _ _ => rfl)) (pv 6) (fun _ _ => rfl)) (pa_cons (pv 7) (pa_cons (pv 10) pa_nil)))) pa_nil)))) (pa_cons (pe_ix ix_tup (pv 2) pe_int (fun _ _ => rfl)) pa_nil)))))))) pss_nil)
      (pss_one (ps_ret (pv 2))))))))))), ?_⟩
    -- kinds, the writer
    refine ⟨_, rfl, (by show 4 ≤ sizeLine; decide), fun a ha => ⟨p, c, hP.new ha, .inl ⟨a, _, rfl, hP.ne ha, SqL.of upd_same, by decide, by decide, fun x1 H1 hx1 k1 => ?_⟩⟩⟩
    obtain ⟨kk, hkk, rfl⟩ := one_nat (ms := [1, 3, 3, 4]) hx1
    obtain ⟨kk1, kk4⟩ := kd_menu kk hkk
    have kA := (Kp.new (Kp.rfl' hP) ha).trans k1
    refine ⟨_, rfl, _, rfl, _, rfl, (by show 2 ≤ sizeLine; decide), fun a2 ha2 => ⟨p, c, kA.pen.new ha2, .inl ⟨a2, _, rfl, kA.pen.ne ha2, SqL.of upd_same, by decide, by decide, fun x2 H2 hx2 k2 => ?_⟩⟩⟩
    obtain ⟨sm, hsm, rfl⟩ := one_nat (ms := [1, 3]) hx2
    obtain ⟨sm1, sm3⟩ := st_menu sm hsm
    have kB := (kA.new ha2).trans k2
    refine ⟨_, rfl, (by show 3 ≤ sizeLine; decide), fun a3 ha3 => ⟨p, c, kB.pen.new ha3, .inl ⟨a3, _, rfl, kB.pen.ne ha3, SqL.of upd_same, by decide, by decide, fun x3 H3 hx3 k3 => ?_⟩⟩⟩
    obtain ⟨bm, hbm, rfl⟩ := one_nat (ms := [2, 2, 3]) hx3
    obtain ⟨bm1, bm3⟩ := bf_menu bm hbm
    have kC := (kB.new ha3).trans k3
    refine ⟨p, c, kk, sm, bm, rfl, kC.pen, by omega, by omega, by omega, by omega, by omega, fun W0 S0 B0 t0 H4 S1 S2 B1 B2 hW0 k4 tW0 => ?_⟩
    have kD := kC.trans k4
    have d0 := wok_sz hW0 S1 (by omega) B1 (by omega) kk1 kk4
    clear hx1 hx2 hx3 ha ha2 ha3 k1 k2 k3 k4 kA kB kC
    refine ⟨fun σ H' => ∃ (W : Wr) (v : V) (v3 : Option V), σ = [some (.ref p), some (.int (kk : Nat)), some v, v3, none, none, none, none, none, none, none] ∧ DSz kk W ∧ Tp H' v W.d ∧ Kp p c H H', ?_, ?_⟩
    · refine ⟨_, rfl, p, c, 3, rfl, kD.pen, by decide, by decide, fun dd H5 e0 e1 k5 => ⟨rfl, _, rfl, ?_⟩⟩
      have tW5 := tW0.mono (k5.tk kD.pen)
      have kE := kD.trans k5
      refine ite2 (fun _ => ?_) (fun _ => ?_)
      · refine ⟨_, rfl, (by show 3 ≤ sizeLine; decide), fun a4 ha4 => ⟨p, c, kE.pen.new ha4, .inl ⟨a4, _, rfl, kE.pen.ne ha4, SqL.of upd_same, by decide, by decide, fun x4 H6 hx4 k6 => ?_⟩⟩⟩
        obtain ⟨mn, hmn, rfl⟩ := one_nat (ms := [4, 5, 12]) hx4
        obtain ⟨mn4, mn12⟩ := mn_menu mn hmn
        have kF := (kE.new ha4).trans k6
        have tW6 := (tW5.mono (tk_new ha4)).mono (k6.tk (kE.pen.new ha4))
        obtain ⟨wa, vb, vr, ve, hv, w1, tb, tr, te⟩ := tW6.w_inv
        cases hv
        obtain ⟨ra, rx, rfl, tr1, tr2⟩ := tr.tup_inv
        obtain ⟨ea, ex, rfl, te1, te2⟩ := te.tup_inv
        have lr1 : 0 < W0.rules.length := d0.sz.r1
        have le1 : 0 < W0.ends.length := by rw [d0.ends]; exact lr1
        obtain ⟨rv, y1, y2⟩ := tr2.at (List.getElem?_eq_getElem lr1)
        obtain ⟨ev, z1, z2⟩ := te2.at (List.getElem?_eq_getElem le1)
        refine ⟨_, rfl, t0, _, _, _, rfl, rfl, SqT.of w1, atI_nat (j := 0) rfl, _, rfl, t0, _, _, _, rfl, rfl, SqT.of w1, atI_nat (j := 1) rfl, ra, _, _, _, rfl, rfl, SqT.of tr1, atI_nat (j := 0) y1, (by show 1 ≤ sizeLine; decide), fun q1 hq1 => ?_⟩
        refine ⟨_, rfl, q1, mn, _, rfl, rfl, SqT.of upd_same, List.cons_ne_nil _ _, by omega, by omega, (by show 1 ≤ 1000; decide), fun q2 hq2 => ?_⟩
        have s2 := Same.trans (same_new (o := .tup [rv]) hq1) (same_new (o := .tup (List.replicate (mn : Int).toNat [rv]).flatten) hq2)
        refine ⟨_, rfl, t0, _, _, _, rfl, rfl, SqT.of (s2 _ _ w1), atI_nat (j := 2) rfl, ea, _, _, _, rfl, rfl, SqT.of (s2 _ _ te1), atI_nat (j := 0) z1, (by show 1 ≤ sizeLine; decide), fun q3 hq3 => ?_⟩
        refine ⟨_, rfl, q3, mn, _, rfl, rfl, SqT.of upd_same, List.cons_ne_nil _ _, by omega, by omega, (by show 1 ≤ 1000; decide), fun q4 hq4 => ?_⟩
        have s4 := Same.trans (Same.trans s2 (same_new (o := .tup [ev]) hq3)) (same_new (o := .tup (List.replicate (mn : Int).toNat [ev]).flatten) hq4)
        refine ⟨(by show 3 ≤ sizeLine; decide), fun q5 hq5 => ?_⟩
        have s5 := Same.trans s4 (same_new (o := .tup [vb, .ref q2, .ref q4]) hq5)
        refine ⟨⟨W0.begins, List.replicate mn W0.rules[0], List.replicate mn W0.ends[0]⟩, .ref q5, _, rfl, dsz_rep d0 mn4 mn12 (List.getElem_mem lr1) (List.getElem_mem le1), ?_, kF.same s5⟩
        have r2 : upd (upd H6 q1 (.tup [rv])) q2 (.tup (List.replicate (mn : Int).toNat [rv]).flatten) q2 = some (.tup (List.replicate (mn : Int).toNat [rv]).flatten) := upd_same
        have r2' := same_new (o := .tup [vb, .ref q2, .ref q4]) hq5 _ _ (same_new (o := .tup (List.replicate (mn : Int).toNat [ev]).flatten) hq4 _ _ (same_new (o := .tup [ev]) hq3 _ _ r2))
        have r4 : upd (upd (upd (upd H6 q1 (.tup [rv])) q2 (.tup (List.replicate (mn : Int).toNat [rv]).flatten)) q3 (.tup [ev])) q4 (.tup (List.replicate (mn : Int).toNat [ev]).flatten) q4 = some (.tup (List.replicate (mn : Int).toNat [ev]).flatten) := upd_same
        have r4' := same_new (o := .tup [vb, .ref q2, .ref q4]) hq5 _ _ r4
        refine .tup upd_same (.cons (tb.mono (Same.tk s5)) (.cons (.tup r2' ?_) (.cons (.tup r4' ?_) .nil)))
        · have e : (List.replicate mn W0.rules[0]).map rowD = List.replicate mn (rowD W0.rules[0]) := List.map_replicate
          rw [e]
          exact tpAll_rep2 (y2.mono (Same.tk s5)) mn
        · have e : (List.replicate mn W0.ends[0]).map endD = List.replicate mn (endD W0.ends[0]) := List.map_replicate
          rw [e]
          exact tpAll_rep2 (z2.mono (Same.tk s5)) mn
      · exact ⟨W0, .ref t0, none, rfl, d0, tW5, kE⟩
    rintro σ H5 ⟨W, v, v3, rfl, dz, tW, k5⟩
    -- how large, which place
    refine ⟨_, rfl, (by show 4 ≤ sizeLine; decide), fun a5 ha5 => ⟨p, c, k5.pen.new ha5, .inl ⟨a5, _, rfl, k5.pen.ne ha5, SqL.of upd_same, by decide, by decide, fun x5 H6 hx5 k6 => ?_⟩⟩⟩
    obtain ⟨sz, hsz, rfl⟩ := one_nat (ms := [23, 24, 25, 240]) hx5
    obtain ⟨sz1, sz2⟩ := sz_menu sz hsz
    have k56 := (k5.new ha5).trans k6
    have tW6 := (tW.mono (tk_new ha5)).mono (k6.tk (k5.pen.new ha5))
    obtain ⟨wa, vb, vr, ve, rfl, _, _, tr0, _⟩ := tW6.w_inv
    refine ⟨_, rfl, p, c, 4, rfl, k56.pen, by decide, by decide, fun op H7 o0 o1 k7 => ?_⟩
    have tW7 := tW6.mono (k7.tk k56.pen)
    obtain ⟨wa7, vb7, vr7, ve7, e7, w7, tb7, tr7, te7⟩ := tW7.w_inv
    cases e7
    obtain ⟨ra, rx, rfl, tr1, tr2⟩ := tr7.tup_inv
    have lr : rx.length = W.rules.length := by rw [tr2.len, List.length_map]
    have r1 := dz.sz.r1
    have r12 := dz.r12
    refine ⟨_, rfl, _, rfl, wa, _, _, _, rfl, rfl, SqT.of w7, atI_nat (j := 1) rfl, ra, _, rfl, .inr (SqT.of tr1), p, c, _, rfl, k7.pen, by rw [lr]; omega, log_small (by rw [lr]; omega) (by rw [lr]; omega), fun st H8 st0 st1 k8 => ?_⟩
    have k78 := k7.trans k8
    refine ⟨_, rfl, _, rfl, p, c, _, rfl, k8.pen, by omega, log_small (by omega) (by omega), fun kd H9 kd0 kd1 k9 => ⟨_, _, _, rfl, ?_⟩⟩
    have kZ := k56.trans (k78.trans k9)
    have tW9 := tW6.mono ((k78.trans k9).tk k56.pen)
    rw [lr] at st1
    obtain ⟨stn, rfl⟩ : ∃ n : Nat, st = (n : Int) := ⟨st.toNat, (Int.toNat_of_nonneg st0).symm⟩
    obtain ⟨kdn, rfl⟩ : ∃ n : Nat, kd = (n : Int) := ⟨kd.toNat, (Int.toNat_of_nonneg kd0).symm⟩
    have stl : stn < W.rules.length := by omega
    have ste : stn < W.ends.length := by rw [dz.ends]; exact stl
    have kdl : kdn < kk := by omega
    obtain ⟨wa9, vb9, vr9, ve9, e9, w9, tb9, tr9, te9⟩ := tW9.w_inv
    cases e9
    obtain ⟨ba, bx, rfl, tb1, tb2⟩ := tb9.tup_inv
    have lb : bx.length = W.begins.length := by rw [tb2.len, List.length_map]
    obtain ⟨hf, hhf⟩ : ∃ hf : Nat, (sz : Int) / 2 = (hf : Int) := ⟨sz / 2, by omega⟩
    have hf2 : 11 ≤ hf ∧ hf ≤ 120 ∧ 11 ≤ sz - hf ∧ sz - hf ≤ 120 ∧ hf ≤ sz := by omega
    refine ⟨_, rfl, _, _, rfl, rfl, ⟨by decide, by decide⟩, ?_⟩
    have em : V.str "m" = V.str ⟨#[109]⟩ := by decide +kernel
    have ea : V.str "a" = V.str ⟨#[97]⟩ := by decide +kernel
    have eb : V.str "b" = V.str ⟨#[98]⟩ := by decide +kernel
    refine ⟨_, rfl, rfl, _, rfl, ?_⟩
    refine ite2 (fun _ => ?_) (fun _ => ?_)
    · have bl := dz.sz.b1
      have eidx : ((bx.length : Nat) : Int) - 1 = ((bx.length - 1 : Nat) : Int) := by omega
      refine ⟨_, rfl, wa, _, _, _, rfl, rfl, SqT.of w9, atI_nat (j := 0) rfl, _, rfl, wa, _, _, _, rfl, rfl, SqT.of w9, atI_nat (j := 0) rfl, ba, _, rfl, .inr (SqT.of tb1), _, _, rfl, rfl, _, rfl, 109, sz, em, rfl, by omega, by omega, ?_⟩
      refine ⟨.ref ba, .str (rowOf 109 sz), bx.length - 1, W.begins.map .str, .str (rowOf 109 sz), ?_, .tup tb1 tb2, .str _, ?_, ?_, fun v1 H10 s10 t10 => ?_⟩
      · show [V.ref ba, V.int (((bx.length : Nat) : Int) - 1), V.str (rowOf 109 sz)] = _
        rw [eidx]
      · rw [List.length_map]
        omega
      · rw [List.length_map]
        have := dz.b3
        omega
      refine ⟨_, rfl, wa, _, _, _, rfl, rfl, SqT.of (s10 _ _ w9), atI_nat (j := 1) rfl, _, rfl, wa, _, _, _, rfl, rfl, SqT.of (s10 _ _ w9), atI_nat (j := 2) rfl, (by show 3 ≤ sizeLine; decide), fun q hq => ?_⟩
      have s11 := Same.trans s10 (same_new (o := .tup [v1, vr9, ve9]) hq)
      refine k ⟨W.begins.set (bx.length - 1) (rowOf 109 sz), W.rules, W.ends⟩ _ _ (wsz_begin dz.sz ⟨by rw [rowOf_len]; omega, rowOf_low (by decide)⟩) (kZ.same s11) (.tup upd_same (.cons ?_ (.cons (tr9.mono (Same.tk s11)) (.cons (te9.mono (Same.tk s11)) .nil))))
      rw [set_map PyData.str] at t10
      exact t10.mono (tk_new hq)
    refine ⟨_, rfl, rfl, _, rfl, ?_⟩
    refine ite2 (fun _ => ?_) (fun _ => ?_)
    · refine ⟨_, rfl, wa, _, _, _, rfl, rfl, SqT.of w9, atI_nat (j := 0) rfl, _, rfl, wa, _, _, _, rfl, rfl, SqT.of w9, atI_nat (j := 1) rfl, _, rfl, wa, _, _, _, rfl, rfl, SqT.of w9, atI_nat (j := 2) rfl, _, rfl, _, rfl, 97, hf, ea, congrArg V.int hhf, by omega, by omega, _, rfl, _, rfl, _, _, rfl, rfl, 98, sz - hf, eb, congrArg V.int (show (sz : Int) - (sz : Int) / 2 = ((sz - hf : Nat) : Int) by omega), by omega, by omega, (by show 3 ≤ sizeLine; decide), fun q hq => ?_⟩
      have sq := same_new (o := .tup [.str (rowOf 97 hf), .int 0, .str (rowOf 98 (sz - hf))]) hq
      refine ⟨ve9, .ref q, stn, W.ends.map endD, endD (some [.s (rowOf 97 hf), .b 0, .s (rowOf 98 (sz - hf))]), rfl, te9.mono (Same.tk sq), .tup upd_same (tp_parts [.s (rowOf 97 hf), .b 0, .s (rowOf 98 (sz - hf))]), by rw [List.length_map]; exact ste, by rw [List.length_map]; have := dz.sz.e1; omega, fun v1 H10 s10 t10 => ?_⟩
      refine ⟨(by show 3 ≤ sizeLine; decide), fun q2 hq2 => ?_⟩
      have s11 := Same.trans (Same.trans sq s10) (same_new (o := .tup [.ref ba, vr9, v1]) hq2)
      refine k ⟨W.begins, W.rules, W.ends.set stn (some [.s (rowOf 97 hf), .b 0, .s (rowOf 98 (sz - hf))])⟩ _ _ (wsz_end dz.sz (rsz_ab (by omega))) (kZ.same s11) (.tup upd_same (.cons (tb9.mono (Same.tk s11)) (.cons (tr9.mono (Same.tk s11)) (.cons ?_ .nil))))
      rw [set_map endD] at t10
      exact t10.mono (tk_new hq2)
    refine ⟨_, rfl, rfl, _, rfl, ?_⟩
    refine ite2 (fun _ => ?_) (fun _ => ?_)
    · obtain ⟨ra9, rx9, rfl, tr91, tr92⟩ := tr9.tup_inv
      obtain ⟨rv, y1, y2⟩ := tr92.at (List.getElem?_eq_getElem stl)
      have rowm := List.getElem_mem stl
      have rowl := dz.rows _ rowm
      refine ⟨_, rfl, 97, hf, ea, congrArg V.int hhf, by omega, by omega, (by show 1 ≤ sizeLine; decide), fun q1 hq1 => ?_⟩
      refine ⟨_, rfl, _, rfl, _, _, rfl, rfl, 98, sz - hf, eb, congrArg V.int (show (sz : Int) - (sz : Int) / 2 = ((sz - hf : Nat) : Int) by omega), by omega, by omega, (by show 2 ≤ sizeLine; decide), fun q2 hq2 => ?_⟩
      refine ⟨Nat.zero_le _, fun q3 hq3 => ⟨(by show 3 ≤ sizeLine; decide), fun q4 hq4 => ?_⟩⟩
      have sA := Same.trans (Same.trans (Same.trans (same_new (o := .tup [.str (rowOf 97 hf)]) hq1) (same_new (o := .tup [.int 0, .str (rowOf 98 (sz - hf))]) hq2)) (same_new (o := .tup []) hq3)) (same_new (o := .lst [.ref q1, .ref q2, .ref q3]) hq4)
      have f1 : upd (upd (upd (upd H9 q1 (.tup [.str (rowOf 97 hf)])) q2 (.tup [.int 0, .str (rowOf 98 (sz - hf))])) q3 (.tup [])) q4 (.lst [.ref q1, .ref q2, .ref q3]) q1 = some (.tup [.str (rowOf 97 hf)]) := same_new hq4 _ _ (same_new hq3 _ _ (same_new hq2 _ _ upd_same))
      have f2 : upd (upd (upd (upd H9 q1 (.tup [.str (rowOf 97 hf)])) q2 (.tup [.int 0, .str (rowOf 98 (sz - hf))])) q3 (.tup [])) q4 (.lst [.ref q1, .ref q2, .ref q3]) q2 = some (.tup [.int 0, .str (rowOf 98 (sz - hf))]) := same_new hq4 _ _ (same_new hq3 _ _ upd_same)
      have f3 : upd (upd (upd (upd H9 q1 (.tup [.str (rowOf 97 hf)])) q2 (.tup [.int 0, .str (rowOf 98 (sz - hf))])) q3 (.tup [])) q4 (.lst [.ref q1, .ref q2, .ref q3]) q3 = some (.tup []) := same_new hq4 _ _ upd_same
      have f4 : upd (upd (upd (upd H9 q1 (.tup [.str (rowOf 97 hf)])) q2 (.tup [.int 0, .str (rowOf 98 (sz - hf))])) q3 (.tup [])) q4 (.lst [.ref q1, .ref q2, .ref q3]) q4 = some (.lst [.ref q1, .ref q2, .ref q3]) := upd_same
      generalize upd (upd (upd (upd H9 q1 (.tup [.str (rowOf 97 hf)])) q2 (.tup [.int 0, .str (rowOf 98 (sz - hf))])) q3 (.tup [])) q4 (.lst [.ref q1, .ref q2, .ref q3]) = HA at sA f1 f2 f3 f4 ⊢
      have all3 : TpAll HA [.ref q1, .ref q2, .ref q3] (([[.s (rowOf 97 hf)], [.b 0, .s (rowOf 98 (sz - hf))], []] : List Rc).map Rc.d) := .cons (.tup f1 (tp_parts [.s (rowOf 97 hf)])) (.cons (.tup f2 (tp_parts [.b 0, .s (rowOf 98 (sz - hf))])) (.cons (.tup f3 .nil) .nil))
      refine ⟨_, rfl, _, rfl, _, rfl, wa, _, _, _, rfl, rfl, SqT.of (sA _ _ w9), atI_nat (j := 0) rfl, ba, _, rfl, .inr (SqT.of (sA _ _ tb1)), _, rfl, q4, _, rfl, SqL.of f4, fun q5 hq5 => ?_⟩
      have bl3 : bx.length ≤ ([V.ref q1, .ref q2, .ref q3] : List V).length := by
        rw [lb]
        exact dz.b3
      rw [cut_take _ _ bl3]
      refine ⟨q5, _, rfl, .inl ⟨SqL.of upd_same, fun q6 hq6 => ⟨(by show 2 ≤ sizeLine; decide), fun q7 hq7 => ?_⟩⟩⟩
      have sB := Same.trans (Same.trans (same_new (o := .lst (([V.ref q1, .ref q2, .ref q3] : List V).take bx.length)) hq5) (same_new (o := .tup (([V.ref q1, .ref q2, .ref q3] : List V).take bx.length)) hq6)) (same_new (o := .tup [.int (stn : Int), .ref q6]) hq7)
      have sAB := Same.trans sA sB
      have te : Tp (upd (upd (upd HA q5 (.lst (([V.ref q1, .ref q2, .ref q3] : List V).take bx.length))) q6 (.tup (([V.ref q1, .ref q2, .ref q3] : List V).take bx.length))) q7 (.tup [.int (stn : Int), .ref q6])) (.ref q7) (entD (some (stn, ([[.s (rowOf 97 hf)], [.b 0, .s (rowOf 98 (sz - hf))], []] : List Rc).take bx.length))) := by
        refine .tup upd_same (.cons (.int _) (.cons (.tup (same_new hq7 _ _ upd_same) ?_) .nil))
        rw [List.map_take]
        exact (all3.take bx.length).mono (Same.tk sB)
      generalize upd (upd (upd HA q5 (.lst (([V.ref q1, .ref q2, .ref q3] : List V).take bx.length))) q6 (.tup (([V.ref q1, .ref q2, .ref q3] : List V).take bx.length))) q7 (.tup [.int (stn : Int), .ref q6]) = HB at sB sAB te ⊢
      refine ⟨_, rfl, wa, _, _, _, rfl, rfl, SqT.of (sAB _ _ w9), atI_nat (j := 0) rfl, _, rfl, wa, _, _, _, rfl, rfl, SqT.of (sAB _ _ w9), atI_nat (j := 1) rfl, _, rfl, _, rfl, wa, _, _, _, rfl, rfl, SqT.of (sAB _ _ w9), atI_nat (j := 1) rfl, _, rfl, ra9, _, _, _, rfl, rfl, SqT.of (sAB _ _ tr91), atI_nat y1, _, rfl, _, rfl, ?_⟩
      have esz : ESz (some (stn, ([[.s (rowOf 97 hf)], [.b 0, .s (rowOf 98 (sz - hf))], []] : List Rc).take bx.length)) := by
        intro t fs ee
        cases ee
        refine ⟨by omega, ⟨Nat.le_trans (List.length_take_le _ _) (by rw [lb]; exact Nat.le_trans dz.b3 (by decide)), fun r hr => ?_⟩⟩
        rcases List.mem_cons.mp (List.mem_of_mem_take hr) with rfl | hr
        · exact rsz_a (by omega)
        · rcases List.mem_cons.mp hr with rfl | hr
          · exact rsz_b (by omega)
          · rw [List.mem_singleton.mp hr]
            exact rsz_nil
      generalize ([[.s (rowOf 97 hf)], [.b 0, .s (rowOf 98 (sz - hf))], []] : List Rc).take bx.length = fsn at te esz
      have y2' := y2.mono (Same.tk sAB)
      refine ⟨rv, .ref q7, kdn, (W.rules[stn]).map entD, entD (some (stn, fsn)), rfl, y2', te, by rw [List.length_map, rowl]; exact kdl, by rw [List.length_map, rowl]; omega, fun v1 H10 s10 t10 => ?_⟩
      rw [set_map entD] at t10
      have sC := Same.trans sAB s10
      refine ⟨.ref ra9, v1, stn, W.rules.map rowD, rowD ((W.rules[stn]).set kdn (some (stn, fsn))), rfl, .tup (sC _ _ tr91) (tr92.mono (Same.tk sC)), t10, by rw [List.length_map]; exact stl, by rw [List.length_map]; omega, fun v2 H11 s11 t11 => ?_⟩
      rw [set_map rowD] at t11
      have sD := Same.trans sC s11
      refine ⟨_, rfl, wa, _, _, _, rfl, rfl, SqT.of (sD _ _ w9), atI_nat (j := 2) rfl, (by show 3 ≤ sizeLine; decide), fun q8 hq8 => ?_⟩
      have sE := Same.trans sD (same_new (o := .tup [.ref ba, v2, ve9]) hq8)
      exact k ⟨W.begins, W.rules.set stn ((W.rules[stn]).set kdn (some (stn, fsn))), W.ends⟩ _ _ (wsz_row dz.sz rowm esz) (kZ.same sE) (.tup upd_same (.cons (tb9.mono (Same.tk sE)) (.cons (t11.mono (tk_new hq8)) (.cons (te9.mono (Same.tk sE)) .nil))))
    · exact ⟨_, rfl, k W _ _ dz.sz kZ tW9⟩
end

/-! ### the law -/
def spLaw (K : PySem.W.Frag) : Sp := fun vs H Q _ => ∃ (a : Addr) (ns : List Int), vs = [.ref a] ∧ SqL K H a (ns.map V.int) ∧ ∀ H', Q (.bl true) H'
def nLaw : List Str := ["script", "pen", "lap", "writer", "left", "rows", "turn", "parts", "place", "every", "recipe", "found", "due"]
theorem sc_law : FnScope nLaw ["script"] (fnScope st_law_) := fnScope_by (by decide +kernel)
theorem same_false (z : Str) : (!decide (V.str z = V.str z)) = false := by
  rw [decide_eq_true rfl]
  rfl
/-- a recipe that is compared -/
structure NR (r : Rc) : Prop where
  lt : lets r ≤ 60
  low : lowR r
  len : r.length ≤ 20
  b : ∀ i ∈ bufs r, i < 100
theorem neat_nr {r : Rc} (h : NR r) : Neat 1 7000 r.d := by
  have e : NeatAll 0 (r.length * (300 + 1)) (r.map Pt.d) := neatAll_map fun q hq => by
    cases q with
    | s z =>
      have a := part_len hq
      have b := h.lt
      exact (neat_str (low_strOk (h.low _ hq))).le (Nat.le_refl _) (by omega)
    | b i =>
      have := h.b i (List.mem_flatMap.mpr ⟨_, hq, List.mem_singleton.mpr rfl⟩)
      exact (neat_int (by omega)).le (Nat.le_refl _) (by decide)
  have l := h.len
  exact (e.tup).le (Nat.le_refl _) (by omega)
/-- a row: a recipe as normal makes it, of few parts -/
structure RowOk (r : Rc) : Prop where
  nm : Nm r
  lt : lets r ≤ 9
  low : lowR r
  len : r.length ≤ 3
  b : ∀ i ∈ bufs r, i < 100
theorem rows_flat {rs : List Rc} (h : ∀ r ∈ rs, RowOk r) (n : rs.length ≤ 4) : lets rs.flatten ≤ 36 ∧ rs.flatten.length ≤ 12 ∧ lowR rs.flatten ∧ NE rs.flatten ∧ ∀ i ∈ bufs rs.flatten, i < 100 := by
  have a : ∀ l : List Rc, (∀ r ∈ l, RowOk r) → lets l.flatten ≤ 9 * l.length ∧ l.flatten.length ≤ 3 * l.length := by
    intro l
    induction l with
    | nil => exact fun _ => ⟨Nat.zero_le _, Nat.zero_le _⟩
    | cons x r ih =>
      intro hl
      obtain ⟨i1, i2⟩ := ih fun y hy => hl y (List.mem_cons_of_mem _ hy)
      have x1 := hl x List.mem_cons_self
      have x2 := x1.lt
      have x3 := x1.len
      rw [List.flatten_cons, lets_app, List.length_append, List.length_cons]
      omega
  obtain ⟨a1, a2⟩ := a rs h
  refine ⟨by omega, by omega, fun q hq => ?_, fun z hz => ?_, fun i hi => ?_⟩
  · obtain ⟨r, h1, h2⟩ := List.mem_flatten.mp hq
    exact (h r h1).low q h2
  · obtain ⟨r, h1, h2⟩ := List.mem_flatten.mp hz
    exact (h r h1).nm.ne z h2
  · obtain ⟨q, h1, h2⟩ := List.mem_flatMap.mp hi
    obtain ⟨r, h3, h4⟩ := List.mem_flatten.mp h1
    exact (h r h3).b i (List.mem_flatMap.mpr ⟨q, h4, h2⟩)
theorem jok_rows {rs : List Rc} (h : ∀ r ∈ rs, RowOk r) (n : rs.length ≤ 4) : JOk rs := by
  obtain ⟨a1, a2, a3, a4, a5⟩ := rows_flat h n
  exact ⟨by omega, fun r hr => Nat.le_trans (h r hr).len (by decide), Nat.le_trans a1 (by decide), a3, a4⟩
theorem nr_rows {rs : List Rc} (h : ∀ r ∈ rs, RowOk r) (n : rs.length ≤ 4) : NR (normal rs.flatten) := by
  obtain ⟨a1, a2, a3, a4, a5⟩ := rows_flat h n
  obtain ⟨n1, n2, n3, n4⟩ := normal_ok rs.flatten []
  have e1 : lets (normal rs.flatten) = 0 + lets rs.flatten := n2
  have e2 : (normal rs.flatten).length ≤ 0 + rs.flatten.length := n3
  have e3 : bufs (normal rs.flatten) = bufs rs.flatten := n1
  exact ⟨by omega, n4 (fun x hx => by cases hx) a3, by omega, fun i hi => a5 i (by rw [← e3]; exact hi)⟩
theorem nr_row {r : Rc} (h : RowOk r) : NR r := ⟨Nat.le_trans h.lt (by decide), h.low, Nat.le_trans h.len (by decide), h.b⟩
/-- within a turn that makes a row -/
structure LI (p c l R q : Addr) (rs : List Rc) (n : Nat) (ps : Rc) (ls : List Nat) (H : Hp) : Prop where
  pen : Pen H p c
  hl : H l = some (.lst ((iN ls).map V.int))
  hR : LAt H R (rs.map Rc.d)
  hq : H q = some (.lst (ps.map Pt.v))
  lsm : ∀ i ∈ ls, i < 100
  lle : ls.length ≤ 3
  lt : lets ps ≤ 3 * n
  len : ps.length ≤ n
  low : lowR ps
  b : ∀ i ∈ bufs ps, i < 100
theorem LI.drawn {p c l R q : Addr} {rs : List Rc} {n : Nat} {ps : Rc} {ls : List Nat} {H H' : Hp} (h : LI p c l R q rs n ps ls H) (n1 : l ≠ p) (n2 : R ≠ p) (n3 : q ≠ p) (k : Kp p c H H') : LI p c l R q rs n ps ls H' :=
  ⟨k.pen, k.but _ _ n1 h.hl, h.hR.kp n2 h.pen k, k.but _ _ n3 h.hq, h.lsm, h.lle, h.lt, h.len, h.low, h.b⟩
theorem LI.new {p c l R q e : Addr} {o : HO} {rs : List Rc} {n : Nat} {ps : Rc} {ls : List Nat} {H : Hp} (h : LI p c l R q rs n ps ls H) (he : H e = none) : LI p c l R q rs n ps ls (upd H e o) :=
  ⟨h.pen.new he, same_new he _ _ h.hl, h.hR.same (same_new he), same_new he _ _ h.hq, h.lsm, h.lle, h.lt, h.len, h.low, h.b⟩
theorem LI.piece {p c l R q : Addr} {rs : List Rc} {n : Nat} {ps : Rc} {ls : List Nat} {H : Hp} {z : Str} (h : LI p c l R q rs n ps ls H) (n3 : q ≠ p) (n4 : q ≠ c) (n5 : l ≠ q) (n6 : R ≠ q) (hz : Tx 3 z) : LI p c l R q rs (n + 1) (ps ++ [.s z]) ls (upd H q (.lst (ps.map Pt.v ++ [.str z]))) := by
  refine ⟨h.pen.put n3 n4, by rw [upd_ne n5]; exact h.hl, h.hR.put h.hq n6, ?_, h.lsm, h.lle, ?_, ?_, lowR_app h.low (lowR_one hz.low), ?_⟩
  · rw [upd_same, List.map_append]
    rfl
  · rw [lets_app, lets_one]
    have a := h.lt
    have b : (Pt.s z).let ≤ 3 := hz.len
    omega
  · rw [List.length_append, List.length_singleton]
    have := h.len
    omega
  · intro i hi
    rw [bufs_app, bufs_one] at hi
    rcases List.mem_append.mp hi with hi | hi
    · exact h.b i hi
    · cases hi
theorem LI.take {p c l R q : Addr} {rs : List Rc} {n : Nat} {ps : Rc} {ls : List Nat} {H : Hp} {k : Nat} (h : LI p c l R q rs n ps ls H) (n1 : l ≠ p) (n2 : l ≠ c) (n3 : q ≠ p) (n4 : q ≠ c) (n5 : l ≠ q) (n6 : R ≠ q) (n7 : R ≠ l) (hk : k < ls.length) :
    LI p c l R q rs (n + 1) (ps ++ [.b ls[k]]) (ls.eraseIdx k) (upd (upd H l (.lst (((iN ls).map V.int).eraseIdx k))) q (.lst (ps.map Pt.v ++ [.int ls[k]]))) := by
  have q1 : upd H l (.lst (((iN ls).map V.int).eraseIdx k)) q = some (.lst (ps.map Pt.v)) := by
    rw [upd_ne n5.symm]
    exact h.hq
  refine ⟨(h.pen.put n1 n2).put n3 n4, ?_, (h.hR.put h.hl n7).put q1 n6, ?_, fun i hi => h.lsm i (List.mem_of_mem_eraseIdx hi), Nat.le_trans (List.length_eraseIdx_le _ _) h.lle, ?_, ?_, lowR_app h.low (lowR_one True.intro), ?_⟩
  · rw [upd_ne n5, upd_same]
    unfold iN
    rw [erase_map, erase_map]
  · rw [upd_same, List.map_append]
    rfl
  · rw [lets_app, lets_one]
    have a := h.lt
    show lets ps + 0 ≤ 3 * (n + 1)
    omega
  · rw [List.length_append, List.length_singleton]
    have := h.len
    omega
  · intro i hi
    rw [bufs_app, bufs_one] at hi
    rcases List.mem_append.mp hi with hi | hi
    · exact h.b i hi
    · rw [List.mem_singleton.mp hi]
      exact h.lsm _ (List.getElem_mem hk)
theorem li_row {p c l R q : Addr} {rs : List Rc} {n : Nat} {ps : Rc} {ls : List Nat} {H : Hp} (h : LI p c l R q rs n ps ls H) (hn : n ≤ 3) : RowOk (normal ps) := by
  obtain ⟨n1, n2, n3, n4⟩ := normal_ok ps []
  have e1 : lets (normal ps) = 0 + lets ps := n2
  have e2 : (normal ps).length ≤ 0 + ps.length := n3
  have e3 : bufs (normal ps) = bufs ps := n1
  have a := h.lt
  have b := h.len
  exact ⟨normal_nm ps, by omega, n4 (fun x hx => by cases hx) h.low, by omega, fun i hi => h.b i (by rw [← e3]; exact hi)⟩
section
variable {P : Program} {w : World} {K : PySem.W.Frag} {mg : Str → Option Value} {base : Heap} {f : Addr} {fd : FuncData}
/-- two lists to be compared, the rows, all parts -/
structure FD (p c R e F D : Addr) (rs : List Rc) (ds : List Rc) (n : Nat) (H : Hp) : Prop where
  pen : Pen H p c
  hR : LAt H R (rs.map Rc.d)
  he : H e = some (.lst (rs.flatten.map Pt.v))
  hF : LAt H F (ds.map Rc.d)
  hD : LAt H D (ds.map Rc.d)
  nr : ∀ r ∈ ds, NR r
  len : ds.length ≤ n
  nFD : F ≠ D
  nFR : F ≠ R
  nDR : D ≠ R
  nFe : F ≠ e
  nDe : D ≠ e
  nF : F ≠ p ∧ F ≠ c
  nD : D ≠ p ∧ D ≠ c
theorem FD.same {p c R e F D : Addr} {rs ds : List Rc} {n : Nat} {H H' : Hp} (h : FD p c R e F D rs ds n H) (s : Same H H') : FD p c R e F D rs ds n H' :=
  ⟨h.pen.same s, h.hR.same s, s _ _ h.he, h.hF.same s, h.hD.same s, h.nr, h.len, h.nFD, h.nFR, h.nDR, h.nFe, h.nDe, h.nF, h.nD⟩
/-- found.append(x), then due.append(y), x and y being the same recipe -/
theorem FD.both {p c R e F D : Addr} {rs ds : List Rc} {n : Nat} {H H1 : Hp} {x : V} {r : Rc} {us : List V} (h : FD p c R e F D rs ds n H) (hn : n ≤ 10) (nr : NR r) (s1 : Same H H1) (tx : Tp H1 x r.d) (hu : H1 F = some (.lst us)) :
    us.length < sizeLine ∧ ∀ (H2 : Hp) (y : V) (ws : List V), Same (upd H1 F (.lst (us ++ [x]))) H2 → Tp H2 y r.d → H2 D = some (.lst ws) → ws.length < sizeLine ∧ FD p c R e F D rs (ds ++ [r]) (n + 1) (upd H2 D (.lst (ws ++ [y]))) := by
  have h1 := h.same s1
  have room : ∀ {H' : Hp} {A : Addr} {vs : List V}, LAt H' A (ds.map Rc.d) → H' A = some (.lst vs) → TpAll H' vs (ds.map Rc.d) ∧ vs.length < sizeLine := fun {H' A vs} hA hv => by
    obtain ⟨vs', h2, h3⟩ := hA
    rw [hv] at h2
    cases h2
    refine ⟨h3, ?_⟩
    rw [h3.len, List.length_map]
    have := h.len
    exact lt_line (by omega)
  obtain ⟨au, lu⟩ := room h1.hF hu
  refine ⟨lu, fun H2 y ws s2 ty hw => ?_⟩
  have hR2 : LAt (upd H1 F (.lst (us ++ [x]))) R (rs.map Rc.d) := h1.hR.put hu h.nFR.symm
  have hD2 : LAt (upd H1 F (.lst (us ++ [x]))) D (ds.map Rc.d) := h1.hD.put hu h.nFD.symm
  have hF2 : LAt (upd H1 F (.lst (us ++ [x]))) F ((ds ++ [r]).map Rc.d) := by
    rw [List.map_append]
    exact LAt.push hu au tx
  obtain ⟨aw, lw⟩ := room (hD2.same s2) hw
  refine ⟨lw, ⟨((h1.pen.put h.nF.1 h.nF.2).same s2).put h.nD.1 h.nD.2, (hR2.same s2).put hw h.nDR.symm, ?_, (hF2.same s2).put hw h.nFD, ?_, fun q hq => ?_, ?_, h.nFD, h.nFR, h.nDR, h.nFe, h.nDe, h.nF, h.nD⟩⟩
  · rw [upd_ne h.nDe.symm]
    exact s2 _ _ (by rw [upd_ne h.nFe.symm]; exact h1.he)
  · rw [List.map_append]
    exact LAt.push hw aw ty
  · rcases List.mem_append.mp hq with hq | hq
    · exact h.nr q hq
    · rw [List.mem_singleton.mp hq]
      exact nr
  · rw [List.length_append]
    exact Nat.succ_le_succ h.len
theorem Tp.rc_inv {H : Hp} {v : V} {r : Rc} (h : Tp H v r.d) : ∃ a, v = .ref a ∧ H a = some (.tup (r.map Pt.v)) := by
  obtain ⟨a, xs, rfl, h1, h2⟩ := h.tup_inv
  rw [tpAll_parts h2] at h1
  exact ⟨a, rfl, h1⟩
end

section
variable {P : Program} {w : World} {K : PySem.W.Frag} {mg : Str → Option Value} {base : Heap} {f : Addr} {fd : FuncData}
theorem fn_law (F : C8.Fun K "law" "law" st_law_ f fd) (B : BN3 mg) (Br : mg "repr" = none) (Cpen : Cal P w K mg base 1 "_law_pen" (spPen K) []) (Cd : Cal P w K mg base 2 "_law_draw" spDraw []) (Cz : Cal P w K mg base 8 "_law_sized" spSized []) (Cs : Cal P w K mg base 3 "is_small" spSmall [])
    (Cls : Cal P w K mg base 2 "_law_small" spSmall []) (Cp : Cal P w K mg base 4 "_law_piece" spPiece []) (Cn : Cal P w K mg base 1 "_law_normal" (spNormal K) []) (Cj : CalR P w K mg base 1 "joined" spJoined) : FnG P w K mg base 9 f fd ["script"] (spLaw K) := by
  refine fnG_by F sc_law (fun vs H Q E h => ?_) (fun cdv A outer s H vs Q E gu hr h => ?_)
  · obtain ⟨a, ns, rfl, _⟩ := h
    rfl
  · obtain ⟨a, ns, rfl, hS, k⟩ := h
    refine ⟨_, pss_cons (ps_set (i := 1) sc_law.nd rfl (Or.inl rfl) (pe_c Cpen hr (by decide) (by rfl) (pa_cons (pv 0) pa_nil)))
      (pss_cons (ps_for PassesOwn.never rfl (pi_range1 rfl B.range (pa_cons pe_int pa_nil)) (pg_name (i := 2) sc_law.nd rfl (Or.inl rfl))
        (pss_cons (ps_set (i := 3) sc_law.nd rfl (Or.inl rfl) (pe_c Cz hr (by decide) (by rfl) (pa_cons (pv 1) pa_nil)))
        (pss_cons (ps_if (pt_cmpR op_ne (pe_callB (call_repr gu hr.units) (by rfl) Br (by decide +kernel) (pa_cons (pe_c Cs hr (by decide) (by rfl) (pa_cons (pv 3) pa_nil)) pa_nil)) (pe_callB (call_repr gu hr.units) (by rfl) Br (by decide +kernel) (pa_cons (pe_c Cls hr (by decide) (by rfl) (pa_cons (pv 3) pa_nil)) pa_nil)) (nomark _)) (pss_one (ps_ret pe_bl)) pss_nil)
        (pss_cons (ps_par (i := 4) (j := 5) rfl sc_law.nd rfl rfl (by decide) rfl rfl (pa_cons (pe_lst (pa_cons pe_int (pa_cons pe_int (pa_cons pe_int pa_nil)))) (pa_cons (pe_lst pa_nil) pa_nil)) (by rfl))
        (pss_cut (ps_for PassesOwn.never rfl (pi_range1 rfl B.range (pa_cons (pe_c Cd hr (by decide) (by rfl) (pa_cons (pv 1) (pa_cons pe_int pa_nil))) pa_nil)) (pg_name (i := 6) sc_law.nd rfl (Or.inl rfl))
          (pss_cons (ps_set (i := 7) sc_law.nd rfl (Or.inl rfl) (pe_lst pa_nil))
          (pss_cons (ps_for PassesOwn.never rfl (pi_range1 rfl B.range (pa_cons (pe_c Cd hr (by decide) (by rfl) (pa_cons (pv 1) (pa_cons pe_int pa_nil))) pa_nil)) (pg_name (i := 8) sc_law.nd rfl (Or.inl rfl))
            (pss_one (ps_if (PW.pt (pw_and (pt_cmpR (op_neD hr.units) (pv 4) (pe_lst pa_nil) (nomark _)) (pw_and1 (pt_cmpR op_eq (pe_c Cd hr (by decide) (by rfl) (pa_cons (pv 1) (pa_cons pe_int pa_nil))) pe_int (nomark _)))))
              (pss_one (ps_expr (pe_bm PySem.F.plainAttrs_list PySem.F.slot_list_append PySem.F.type_list_append mt_append (pv 7) (pa_cons (pe_bm PySem.F.plainAttrs_list PySem.F.slot_list_pop PySem.F.type_list_pop mt_popAt (pv 4) (pa_cons (pe_c Cd hr (by decide) (by rfl) (pa_cons (pv 1) (pa_cons (pe_callB call_len_seq (by rfl) B.len PySem.boot_len (pa_cons (pv 4) pa_nil)) pa_nil))) pa_nil)) pa_nil))))
              (pss_one (ps_expr (pe_bm PySem.F.plainAttrs_list PySem.F.slot_list_append PySem.F.type_list_append mt_append (pv 7) (pa_cons (pe_c Cp hr (by decide) (by rfl) (pa_cons (pv 1) (pa_cons pe_int pa_nil))) pa_nil)))))))
          (pss_one (ps_expr (pe_bm PySem.F.plainAttrs_list PySem.F.slot_list_append PySem.F.type_list_append mt_append (pv 5) (pa_cons (pe_c Cn hr (by decide) (by rfl) (pa_cons (pv 7) pa_nil)) pa_nil)))))))
        (pss_cons (ps_set (i := 9) sc_law.nd rfl (Or.inl rfl) (pe_lst pa_nil))
        (pss_cut (ps_for PassesOwn.never rfl (pi_list (pv 5)) (pg_name (i := 10) sc_law.nd rfl (Or.inl rfl))
          (pss_one (ps_set (i := 9) sc_law.nd rfl (Or.inl rfl) (pe_op op_cat (pv 9) (pe_callTy call_list_of (by rfl) B.list (by decide +kernel) (pa_cons (pv 10) pa_nil))))))
        (pss_cons (ps_par (i := 11) (j := 12) rfl sc_law.nd rfl rfl (by decide) rfl rfl (pa_cons (pe_lst (pa_cons (pe_r0 Cj hr (by decide) (by rfl)) pa_nil)) (pa_cons (pe_lst (pa_cons (pe_tup pa_nil) pa_nil)) pa_nil)) (by rfl))
        (pss_cut (ps_if (pt_cmpR op_gt (pe_callB call_len_seq (by rfl) B.len PySem.boot_len (pa_cons (pv 5) pa_nil)) pe_int (nomark _))
          (pss_cons (ps_expr (pe_bm PySem.F.plainAttrs_list PySem.F.slot_list_append PySem.F.type_list_append mt_append (pv 11) (pa_cons (pe_r Cj hr (by decide) (by rfl) (pa_cons (pe_ix ix_list (pv 5) pe_int (fun _ _ => rfl)) pa_nil)) pa_nil)))
          (pss_one (ps_expr (pe_bm PySem.F.plainAttrs_list PySem.F.slot_list_append PySem.F.type_list_append mt_append (pv 12) (pa_cons (pe_ix ix_list (pv 5) pe_int (fun _ _ => rfl)) pa_nil))))) pss_nil)
        (pss_cut (ps_if (pt_cmpR op_gt (pe_callB call_len_seq (by rfl) B.len PySem.boot_len (pa_cons (pv 5) pa_nil)) pe_int (nomark _))
          (pss_cons (ps_expr (pe_bm PySem.F.plainAttrs_list PySem.F.slot_list_append PySem.F.type_list_append mt_append (pv 11) (pa_cons (pe_r Cj hr (by decide) (by rfl) (pa_cons (pe_ix ix_list (pv 5) pe_int (fun _ _ => rfl)) (pa_cons (pe_ix ix_list (pv 5) pe_int (fun _ _ => rfl)) pa_nil))) pa_nil)))
          (pss_one (ps_expr (pe_bm PySem.F.plainAttrs_list PySem.F.slot_list_append PySem.F.type_list_append mt_append (pv 12) (pa_cons (pe_c Cn hr (by decide) (by rfl) (pa_cons (pe_op op_cat (pe_callTy call_list_of (by rfl) B.list (by decide +kernel) (pa_cons (pe_ix ix_list (pv 5) pe_int (fun _ _ => rfl)) pa_nil)) (pe_callTy call_list_of (by rfl) B.list (by decide +kernel) (pa_cons (pe_ix ix_list (pv 5) pe_int (fun _ _ => rfl)) pa_nil))) pa_nil)) pa_nil))))) pss_nil)
        (pss_cut (ps_if (pt_cmpR op_eq (pe_callB call_len_seq (by rfl) B.len PySem.boot_len (pa_cons (pv 5) pa_nil)) pe_int (nomark _))
          (pss_cons (ps_expr (pe_bm PySem.F.plainAttrs_list PySem.F.slot_list_append PySem.F.type_list_append mt_append (pv 11) (pa_cons (pe_r Cj hr (by decide) (by rfl) (pa_cons (pe_ix ix_list (pv 5) pe_int (fun _ _ => rfl)) (pa_cons (pe_ix ix_list (pv 5) pe_int (fun _ _ => rfl)) (pa_cons (pe_ix ix_list (pv 5) pe_int (fun _ _ => rfl)) (pa_cons (pe_ix ix_list (pv 5) pe_int (fun _ _ => rfl)) pa_nil))))) pa_nil)))
          (pss_one (ps_expr (pe_bm PySem.F.plainAttrs_list PySem.F.slot_list_append PySem.F.type_list_append mt_append (pv 12) (pa_cons (pe_c Cn hr (by decide) (by rfl) (pa_cons (pv 9) pa_nil)) pa_nil))))) pss_nil)
        (pss_one (ps_if (pt_cmpR op_ne (pe_callB (call_repr gu hr.units) (by rfl) Br (by decide +kernel) (pa_cons (pv 11) pa_nil)) (pe_callB (call_repr gu hr.units) (by rfl) Br (by decide +kernel) (pa_cons (pv 12) pa_nil)) (nomark _)) (pss_one (ps_ret pe_bl)) pss_nil)))))))))))))
      (pss_one (ps_ret pe_bl))), ?_⟩
    refine ⟨_, rfl, a, ns, rfl, hS, fun H1 p c s1 hP p0 => ?_⟩
    refine ⟨4, rfl, by decide, by decide, for_range (n := 4) (fun i σ H' => (∃ v2 v3 v4 v5 v6 v7 v8 v9 v10 v11 v12 : Option V, σ = [some (.ref a), some (.ref p), v2, v3, v4, v5, v6, v7, v8, v9, v10, v11, v12]) ∧ Pen H' p c) ⟨⟨_, _, _, _, _, _, _, _, _, _, _, rfl⟩, hP⟩ ?_ ?_⟩
    · rintro i σ H2 hi ⟨⟨v2, v3, v4, v5, v6, v7, v8, v9, v10, v11, v12, rfl⟩, hP2⟩
      refine ⟨_, rfl, p, c, rfl, hP2, fun W wv H3 wz k3 tW => ?_⟩
      refine ⟨_, rfl, wv, W, rfl, tW, wz, fun H4 s4 => ⟨_, _, 0, 0, rfl, .bl _, neat_bool _, by decide, by decide, ?_⟩⟩
      refine ⟨_, rfl, wv, W, rfl, tW.mono (Same.tk s4), wz, fun H5 s5 => ⟨_, _, 0, 0, rfl, .bl _, neat_bool _, by decide, by decide, ?_⟩⟩
      refine ⟨rfl, _, rfl, iteF' (same_false _) ?_⟩
      have hP5 := (k3.pen.same s4).same s5
      refine ⟨(by show 3 ≤ sizeLine; decide), fun l hl => ⟨Nat.zero_le _, fun R hR => ⟨_, _, rfl, ?_⟩⟩⟩
      have hPl := hP5.new (o := .lst [.int 0, .int 1, .int 2]) hl
      have nl1 := hP5.ne hl
      have nl2 := hP5.neC hl
      have nR1 := hPl.ne hR
      have nR2 := hPl.neC hR
      have nRl : R ≠ l := (ne_of_none upd_same hR).symm
      -- the rows
      refine ⟨fun σ H' => (∃ v6 v7 v8 : Option V, σ = [some (.ref a), some (.ref p), some (.int (0 + (i : Int))), some wv, some (.ref l), some (.ref R), v6, v7, v8, v9, v10, v11, v12]) ∧ ∃ rs : List Rc, Pen H' p c ∧ LAt H' R (rs.map Rc.d) ∧ rs.length ≤ 4 ∧ ∀ r ∈ rs, RowOk r, ?_, ?_⟩
      · have hPR := hPl.new (o := .lst []) hR
        refine ⟨_, rfl, p, c, 5, rfl, hPR, by decide, by decide, fun d H6 d0 d1 k6 => ?_⟩
        refine ⟨d, rfl, by omega, by omega, for_range (n := d.toNat) (fun j σ H' => (∃ v6 v7 v8 : Option V, σ = [some (.ref a), some (.ref p), some (.int (0 + (i : Int))), some wv, some (.ref l), some (.ref R), v6, v7, v8, v9, v10, v11, v12]) ∧
            ∃ (rs : List Rc) (ls : List Nat), Pen H' p c ∧ H' l = some (.lst ((iN ls).map V.int)) ∧ LAt H' R (rs.map Rc.d) ∧ rs.length = j ∧ (∀ r ∈ rs, RowOk r) ∧ (∀ x ∈ ls, x < 100) ∧ ls.length ≤ 3)
          ⟨⟨_, _, _, rfl⟩, [], [0, 1, 2], k6.pen, k6.but _ _ nl1 (same_new hR _ _ upd_same), LAt.kp ⟨[], upd_same, .nil⟩ nR1 hPR k6, rfl, fun r hr => (by cases hr), by decide, by decide⟩ ?_ ?_⟩
        · rintro j σ H7 hj ⟨⟨v6', v7', v8', rfl⟩, rs, ls, hP7, hl7, hR7, rsl, rok, lsm, lle⟩
          refine ⟨Nat.zero_le _, fun q hq => ?_⟩
          have nq1 := hP7.ne hq
          have nq2 := hP7.neC hq
          have nlq : l ≠ q := ne_of_none hl7 hq
          have nRq : R ≠ q := by
            obtain ⟨vs, h1, _⟩ := hR7
            exact ne_of_none h1 hq
          have L0 : LI p c l R q rs 0 [] ls (upd H7 q (.lst [])) := ⟨hP7.new hq, same_new hq _ _ hl7, hR7.same (same_new hq), upd_same, lsm, lle, Nat.le_refl _, Nat.le_refl _, fun x hx => (by cases hx), fun x hx => (by cases hx)⟩
          refine ⟨_, rfl, p, c, 4, rfl, L0.pen, by decide, by decide, fun g H8 g0 g1 k8 => ?_⟩
          have L1 := L0.drawn nl1 nR1 nq1 k8
          refine ⟨g, rfl, by omega, by omega, for_range (n := g.toNat) (fun m σ H' => (∃ v8 : Option V, σ = [some (.ref a), some (.ref p), some (.int (0 + (i : Int))), some wv, some (.ref l), some (.ref R), some (.int (0 + (j : Int))), some (.ref q), v8, v9, v10, v11, v12]) ∧ ∃ ps ls, LI p c l R q rs m ps ls H') ⟨⟨_, rfl⟩, [], ls, L1⟩ ?_ ?_⟩
          · rintro m σ H9 hm ⟨⟨v8', rfl⟩, ps, ls2, L⟩
            have room : ∀ {ls3 : List Nat} {Hx : Hp}, LI p c l R q rs m ps ls3 Hx → (ps.map Pt.v).length < sizeLine := fun {ls3 Hx} L' => by
              rw [List.length_map]
              have := L'.len
              exact lt_line (by omega)
            -- a piece
            have other : ∀ (Hx : Hp) (ls3 : List Nat), LI p c l R q rs m ps ls3 Hx → spPiece [.ref p, .int 3] Hx (fun x H' => rAppend (.ref q) [x] H' fun _ H'' => (∃ v8 : Option V, [some (V.ref a), some (.ref p), some (.int (0 + (i : Int))), some wv, some (.ref l), some (.ref R), some (.int (0 + (j : Int))), some (.ref q), some (.int (0 + (m : Int))), v9, v10, v11, v12] = [some (.ref a), some (.ref p), some (.int (0 + (i : Int))), some wv, some (.ref l), some (.ref R), some (.int (0 + (j : Int))), some (.ref q), v8, v9, v10, v11, v12]) ∧ ∃ ps ls, LI p c l R q rs (m + 1) ps ls H'') C8.E0 := fun Hx ls3 L' => by
              refine ⟨p, c, 3, rfl, L'.pen, by decide, by decide, fun z Hy z0 hz ky => ?_⟩
              have L'' := L'.drawn nl1 nR1 nq1 ky
              exact ⟨q, _, _, rfl, rfl, L''.hq, room L'', ⟨_, rfl⟩, _, _, L''.piece nq1 nq2 nlq nRq hz⟩
            refine ⟨_, rfl, Nat.zero_le _, fun e he => ?_⟩
            have Le := L.new (o := .lst []) he
            refine ⟨.list ((iN ls2).map PyData.int), .list [], .lst (SqL.of Le.hl) (dp_ints _), .lst (SqL.of upd_same) .nil, shaped_ints _, by decide, _, rfl, ?_⟩
            rw [ints_ne_nil]
            by_cases hne : ls2 = []
            · subst hne
              refine iteF (iteF ?_)
              exact ⟨_, rfl, .inl ⟨rfl, _, SqL.of Le.hq⟩, _, rfl, other _ _ Le⟩
            · have hem : (!(iN ls2).isEmpty) = true := by
                cases ls2 with
                | nil => exact absurd rfl hne
                | cons y r => rfl
              have hpos : 0 < ls2.length := List.length_pos_iff.mpr hne
              have l3 := Le.lle
              rw [hem]
              refine iteT ⟨_, rfl, p, c, 2, rfl, Le.pen, by decide, by decide, fun u H10 u0 u1 k10 => ⟨rfl, _, rfl, ?_⟩⟩
              have L10 := Le.drawn nl1 nR1 nq1 k10
              refine ite2 (fun _ => ?_) (fun _ => ?_)
              · refine ⟨_, rfl, .inl ⟨rfl, _, SqL.of L10.hq⟩, _, rfl, .inl ⟨rfl, _, SqL.of L10.hl⟩, _, rfl, _, rfl, l, _, rfl, .inl (SqL.of L10.hl), p, c, _, rfl, L10.pen, by rw [iN_len]; omega, log_small (by rw [iN_len]; omega) (by rw [iN_len]; omega), fun y H11 y0 y1 k11 => ?_⟩
                have L11 := L10.drawn nl1 nR1 nq1 k11
                rw [iN_len] at y1
                obtain ⟨k', rfl⟩ : ∃ k' : Nat, y = (k' : Int) := ⟨y.toNat, (Int.toNat_of_nonneg y0).symm⟩
                have hk : k' < ls2.length := by omega
                refine ⟨l, _, _, k', .int (ls2[k'] : Nat), rfl, rfl, L11.hl, by omega, by omega, ?_, ?_, ?_⟩
                · refine (ixN_seq (n := ((iN ls2).map V.int).length) (i := (k' : Int)) (j := k') ?_).1
                  rw [iN_len]
                  unfold ixN
                  rw [if_pos (by omega), if_pos (by omega)]
                  refine congrArg some ?_
                  omega
                · unfold iN
                  rw [List.getElem?_map, List.getElem?_map, List.getElem?_eq_getElem hk]
                  rfl
                · exact ⟨q, _, _, rfl, rfl, (by rw [upd_ne nlq.symm]; exact L11.hq), room L11, ⟨_, rfl⟩, _, _, L11.take nl1 nl2 nq1 nq2 nlq nRq nRl hk⟩
              · exact ⟨_, rfl, .inl ⟨rfl, _, SqL.of L10.hq⟩, _, rfl, other _ _ L10⟩
          · rintro σ H9 ⟨⟨v8', rfl⟩, ps, ls2, L⟩
            have g3 : g.toNat ≤ 3 := by omega
            have row := li_row L g3
            have l1 := L.len
            have l2 := L.lt
            refine ⟨_, rfl, .inl ⟨rfl, _, SqL.of (show H9 R = _ from L.hR.choose_spec.1)⟩, _, rfl, q, ps, rfl, SqL.of L.hq, by omega, by omega, L.low, fun t H10 s10 t0 t1 => ?_⟩
            obtain ⟨us, hu, au⟩ := L.hR.same s10
            refine ⟨R, us, _, rfl, rfl, hu, ?_, ⟨_, _, _, rfl⟩, rs ++ [normal ps], ls2, (L.pen.same s10).put nR1 nR2, ?_, ?_, ?_, ?_, L.lsm, L.lle⟩
            · rw [au.len, List.length_map]
              exact lt_line (by omega)
            · rw [upd_ne nRl.symm]
              exact s10 _ _ L.hl
            · rw [List.map_append]
              exact LAt.push hu au (tp_rc t1)
            · rw [List.length_append, rsl]
              rfl
            · intro r hr'
              rcases List.mem_append.mp hr' with hr' | hr'
              · exact rok r hr'
              · rw [List.mem_singleton.mp hr']
                exact row
        · rintro σ H7 ⟨⟨v6', v7', v8', rfl⟩, rs, ls, hP7, hl7, hR7, rsl, rok, lsm, lle⟩
          exact ⟨⟨_, _, _, rfl⟩, rs, hP7, hR7, by omega, rok⟩
      rintro σ H6 ⟨⟨v6', v7', v8', rfl⟩, rs, hP6, hR6, rsl, rok⟩
      obtain ⟨f1, f2, f3, f4, f5⟩ := rows_flat rok rsl
      -- all parts
      refine ⟨Nat.zero_le _, fun e0 he0 => ?_⟩
      refine ⟨fun σ H' => (∃ (e : Addr) (v10' : Option V), σ = [some (.ref a), some (.ref p), some (.int (0 + (i : Int))), some wv, some (.ref l), some (.ref R), v6', v7', v8', some (.ref e), v10', v11, v12] ∧ H' e = some (.lst (rs.flatten.map Pt.v)) ∧ e ≠ R) ∧ Pen H' p c ∧ LAt H' R (rs.map Rc.d), ?_, ?_⟩
      · obtain ⟨us, hu, au⟩ := hR6
        have lus : us.length = rs.length := by rw [au.len, List.length_map]
        have s0 := same_new (o := .lst []) he0
        refine ⟨_, rfl, R, rfl, ⟨_, SqL.of (s0 _ _ hu)⟩, for_list (K := K) (a := R) (xs := us) (fun j σ H' => (∃ (e : Addr) (v10' : Option V), σ = [some (.ref a), some (.ref p), some (.int (0 + (i : Int))), some wv, some (.ref l), some (.ref R), v6', v7', v8', some (.ref e), v10', v11, v12] ∧ H' e = some (.lst ((rs.take j).flatten.map Pt.v)) ∧ H6 e = none) ∧ Same H6 H')
          ⟨⟨e0, _, rfl, upd_same, he0⟩, s0⟩ (fun j σ H' _ h => SqL.of (h.2 _ _ hu)) ?_ ?_⟩
        · rintro j x σ H7 hj ⟨⟨e, v10', rfl, he, e6⟩, s7⟩
          have jlt : j < rs.length := by
            have z := (List.getElem?_eq_some_iff.mp hj).1
            omega
          have hg := List.getElem?_eq_getElem jlt
          obtain ⟨v, hv, tv⟩ := au.at hg
          rw [hj] at hv
          cases hv
          obtain ⟨ra, rfl, r1⟩ := tv.rc_inv
          refine ⟨_, rfl, _, rfl, ra, _, rfl, .inr (SqT.of (s7 _ _ r1)), fun q hq => ?_⟩
          refine ⟨e, q, _, _, rfl, rfl, same_new hq _ _ he, upd_same, ?_, fun q2 hq2 => ?_⟩
          · rw [List.length_map, List.length_map]
            have b1 := (rok _ (List.getElem_mem jlt)).len
            have b2 : (rs.take j).flatten.length ≤ rs.flatten.length := by
              have z := congrArg List.length (congrArg List.flatten (List.take_append_drop j rs))
              rw [List.flatten_append, List.length_append] at z
              omega
            exact Nat.le_of_lt (lt_line (by omega))
          · refine ⟨⟨q2, _, rfl, ?_, ?_⟩, Same.trans s7 (Same.trans (same_new hq) (same_new hq2))⟩
            · rw [upd_same, List.take_add_one, hg, List.flatten_append, List.map_append]
              have e3 : (some rs[j]).toList.flatten = rs[j] := by
                show [rs[j]].flatten = rs[j]
                rw [List.flatten_cons, List.flatten_nil, List.append_nil]
              rw [e3]
            · exact Same.free (Same.trans s7 (same_new hq)) hq2
        · rintro σ H7 ⟨⟨e, v10', rfl, he, e6⟩, s7⟩
          rw [lus, List.take_length] at he
          exact ⟨⟨e, _, rfl, he, fun z => by rw [z, hu] at e6; cases e6⟩, hP6.same s7, LAt.same ⟨us, hu, au⟩ s7⟩
      rintro σ H7 ⟨⟨e, v10', rfl, he, neR⟩, hP7, hR7⟩
      -- the two lists
      refine ⟨[], .nil, jok_rows (fun r hr => (by cases hr)) (by decide), fun t H8 s8 ht => ?_⟩
      refine ⟨(by show 1 ≤ sizeLine; decide), fun Fl hF => ⟨Nat.zero_le _, fun t2 ht2 => ⟨(by show 1 ≤ sizeLine; decide), fun Dl hD => ⟨_, _, rfl, ?_⟩⟩⟩⟩
      have s9 := Same.trans (Same.trans (Same.trans s8 (same_new (o := .lst [.ref t]) hF)) (same_new (o := .tup []) ht2)) (same_new (o := .lst [.ref t2]) hD)
      have F7 : H7 Fl = none := Same.free s8 hF
      have D7 : H7 Dl = none := Same.free (Same.trans (Same.trans s8 (same_new hF)) (same_new ht2)) hD
      have FF : upd (upd (upd H8 Fl (.lst [.ref t])) t2 (.tup [])) Dl (.lst [.ref t2]) Fl = some (.lst [.ref t]) := same_new hD _ _ (same_new ht2 _ _ upd_same)
      have G0 : FD p c R e Fl Dl rs [[]] 1 (upd (upd (upd H8 Fl (.lst [.ref t])) t2 (.tup [])) Dl (.lst [.ref t2])) := by
        refine ⟨hP7.same s9, hR7.same s9, s9 _ _ he, ⟨_, FF, .cons (.tup (Same.trans (Same.trans (same_new hF) (same_new ht2)) (same_new hD) _ _ ht) .nil) .nil⟩, ⟨_, upd_same, .cons (.tup (same_new hD _ _ upd_same) .nil) .nil⟩, fun r hr => ?_, Nat.le_refl _, ?_, ?_, ?_, ?_, ?_, ⟨hP7.ne F7, hP7.neC F7⟩, ⟨hP7.ne D7, hP7.neC D7⟩⟩
        · rw [List.mem_singleton.mp hr]
          exact ⟨Nat.zero_le _, fun x hx => (by cases hx), Nat.zero_le _, fun x hx => (by cases hx)⟩
        · exact (ne_of_none (same_new ht2 _ _ upd_same) hD)
        · obtain ⟨vs, h1, _⟩ := hR7
          exact (ne_of_none h1 F7).symm
        · obtain ⟨vs, h1, _⟩ := hR7
          exact (ne_of_none h1 D7).symm
        · exact (ne_of_none he F7).symm
        · exact (ne_of_none he D7).symm
      generalize upd (upd (upd H8 Fl (.lst [.ref t])) t2 (.tup [])) Dl (.lst [.ref t2]) = HG at G0 ⊢
      clear FF s9 hF ht2 hD ht s8 F7 D7 H8
      have look : ∀ {n : Nat} {ds : List Rc} {Hx : Hp}, FD p c R e Fl Dl rs ds n Hx → ∃ us, Hx R = some (.lst us) ∧ TpAll Hx us (rs.map Rc.d) ∧ us.length = rs.length := fun {n ds Hx} G => by
        obtain ⟨us, h1, h2⟩ := G.hR
        exact ⟨us, h1, h2, by rw [h2.len, List.length_map]⟩
      have lookF : ∀ {n : Nat} {ds : List Rc} {Hx : Hp}, FD p c R e Fl Dl rs ds n Hx → ∃ us, Hx Fl = some (.lst us) := fun {n ds Hx} G => G.hF.imp fun us h => h.1
      have lookD : ∀ {n : Nat} {ds : List Rc} {Hx : Hp}, FD p c R e Fl Dl rs ds n Hx → ∃ us, Hx Dl = some (.lst us) := fun {n ds Hx} G => G.hD.imp fun us h => h.1
      refine ⟨fun σ H' => σ = [some (.ref a), some (.ref p), some (.int (0 + (i : Int))), some wv, some (.ref l), some (.ref R), v6', v7', v8', some (.ref e), v10', some (.ref Fl), some (.ref Dl)] ∧ ∃ ds, FD p c R e Fl Dl rs ds 2 H', ?_, ?_⟩
      · obtain ⟨us, hu, au, lu⟩ := look G0
        refine ⟨_, rfl, R, _, rfl, .inl (SqL.of hu), _, _, rfl, rfl, _, rfl, ?_⟩
        rw [lu]
        refine ite2 (fun c1 => ?_) (fun c1 => ?_)
        · have lt0 : 0 < rs.length := by have := of_decide_eq_true c1; omega
          obtain ⟨v0, h0, t0⟩ := au.at (List.getElem?_eq_getElem lt0)
          have ok0 := rok _ (List.getElem_mem lt0)
          obtain ⟨uF, hF⟩ := lookF G0
          refine ⟨_, rfl, .inl ⟨rfl, _, SqL.of hF⟩, _, rfl, R, us, _, _, rfl, rfl, SqL.of hu, atI_nat (j := 0) h0, [rs[0]], .cons t0 .nil, jok_rows (fun r hr => by rw [List.mem_singleton.mp hr]; exact ok0) (by show 1 ≤ 4; decide), fun t H8 s8 ht => ?_⟩
          have e0 : normal [rs[0]].flatten = rs[0] := by
            rw [List.flatten_cons, List.flatten_nil, List.append_nil]
            exact ok0.nm.id
          rw [e0] at ht
          obtain ⟨room, next⟩ := G0.both (by decide) (nr_row ok0) s8 (tp_rc ht) (s8 _ _ hF)
          refine ⟨Fl, _, _, rfl, rfl, s8 _ _ hF, room, ?_⟩
          have hu8 : upd H8 Fl (.lst (uF ++ [.ref t])) R = some (.lst us) := by
            rw [upd_ne G0.nFR.symm]
            exact s8 _ _ hu
          obtain ⟨uD, hD⟩ := lookD (G0.same s8)
          have hD8 : upd H8 Fl (.lst (uF ++ [.ref t])) Dl = some (.lst uD) := by
            rw [upd_ne G0.nFD.symm]
            exact hD
          obtain ⟨room2, G1⟩ := next _ v0 uD (Same.refl _) ((t0.mono (Same.tk s8)).mono (tk_lst (s8 _ _ hF))) hD8
          exact ⟨_, rfl, .inl ⟨rfl, _, SqL.of hD8⟩, _, rfl, R, us, _, _, rfl, rfl, SqL.of hu8, atI_nat (j := 0) h0, Dl, _, _, rfl, rfl, hD8, room2, rfl, _, G1⟩
        · exact ⟨rfl, _, ⟨G0.pen, G0.hR, G0.he, G0.hF, G0.hD, G0.nr, Nat.le_trans G0.len (by decide), G0.nFD, G0.nFR, G0.nDR, G0.nFe, G0.nDe, G0.nF, G0.nD⟩⟩
      rintro σ H8 ⟨rfl, ds, G⟩
      refine ⟨fun σ H' => σ = [some (.ref a), some (.ref p), some (.int (0 + (i : Int))), some wv, some (.ref l), some (.ref R), v6', v7', v8', some (.ref e), v10', some (.ref Fl), some (.ref Dl)] ∧ ∃ ds, FD p c R e Fl Dl rs ds 3 H', ?_, ?_⟩
      · obtain ⟨us, hu, au, lu⟩ := look G
        refine ⟨_, rfl, R, _, rfl, .inl (SqL.of hu), _, _, rfl, rfl, _, rfl, ?_⟩
        rw [lu]
        refine ite2 (fun c1 => ?_) (fun c1 => ?_)
        · have lt1 : 1 < rs.length := by have := of_decide_eq_true c1; omega
          have lt0 : 0 < rs.length := by omega
          obtain ⟨v0, h0, t0⟩ := au.at (List.getElem?_eq_getElem lt0)
          obtain ⟨v1, h1, t1⟩ := au.at (List.getElem?_eq_getElem lt1)
          have ok0 := rok _ (List.getElem_mem lt0)
          have ok1 := rok _ (List.getElem_mem lt1)
          have two : ∀ r ∈ [rs[1], rs[0]], RowOk r := fun r hr => by
            rcases List.mem_cons.mp hr with rfl | hr
            · exact ok1
            · rw [List.mem_singleton.mp hr]
              exact ok0
          obtain ⟨uF, hF⟩ := lookF G
          refine ⟨_, rfl, .inl ⟨rfl, _, SqL.of hF⟩, _, rfl, R, us, _, _, rfl, rfl, SqL.of hu, atI_nat (j := 1) h1, _, rfl, R, us, _, _, rfl, rfl, SqL.of hu, atI_nat (j := 0) h0, [rs[1], rs[0]], .cons t1 (.cons t0 .nil), jok_rows two (by show 2 ≤ 4; decide), fun t H9 s9 ht => ?_⟩
          obtain ⟨room, next⟩ := G.both (by decide) (nr_rows two (by show 2 ≤ 4; decide)) s9 (tp_rc ht) (s9 _ _ hF)
          refine ⟨Fl, _, _, rfl, rfl, s9 _ _ hF, room, ?_⟩
          have sF : Same H9 H9 := Same.refl _
          have hu9 : upd H9 Fl (.lst (uF ++ [.ref t])) R = some (.lst us) := by
            rw [upd_ne G.nFR.symm]
            exact s9 _ _ hu
          have t0' : Tp (upd H9 Fl (.lst (uF ++ [.ref t]))) v0 rs[0].d := (t0.mono (Same.tk s9)).mono (tk_lst (s9 _ _ hF))
          have t1' : Tp (upd H9 Fl (.lst (uF ++ [.ref t]))) v1 rs[1].d := (t1.mono (Same.tk s9)).mono (tk_lst (s9 _ _ hF))
          obtain ⟨a0, rfl, b0⟩ := t0'.rc_inv
          obtain ⟨a1, rfl, b1⟩ := t1'.rc_inv
          obtain ⟨uD, hD⟩ := lookD (G.same s9)
          have hD9 : upd H9 Fl (.lst (uF ++ [.ref t])) Dl = some (.lst uD) := by
            rw [upd_ne G.nFD.symm]
            exact hD
          obtain ⟨g1, g2, g3, g4, g5⟩ := rows_flat two (by show 2 ≤ 4; decide)
          have e2 : [rs[1], rs[0]].flatten = rs[1] ++ rs[0] := by
            rw [List.flatten_cons, List.flatten_cons, List.flatten_nil, List.append_nil]
          rw [e2] at g1 g2 g3
          refine ⟨_, rfl, .inl ⟨rfl, _, SqL.of hD9⟩, _, rfl, R, us, _, _, rfl, rfl, SqL.of hu9, atI_nat (j := 1) h1, a1, _, rfl, .inr (SqT.of b1), fun q1 hq1 => ?_⟩
          have sq1 := same_new (o := .lst (rs[1].map Pt.v)) hq1
          refine ⟨_, rfl, R, us, _, _, rfl, rfl, SqL.of (sq1 _ _ hu9), atI_nat (j := 0) h0, a0, _, rfl, .inr (SqT.of (sq1 _ _ b0)), fun q2 hq2 => ?_⟩
          have sq2 := Same.trans sq1 (same_new (o := .lst (rs[0].map Pt.v)) hq2)
          refine ⟨q1, q2, _, _, rfl, rfl, same_new hq2 _ _ upd_same, upd_same, ?_, fun q3 hq3 => ?_⟩
          · rw [List.length_map, List.length_map]
            have z1 := ok0.len
            have z2 := ok1.len
            exact Nat.le_of_lt (lt_line (by omega))
          have sq3 := Same.trans sq2 (same_new (o := .lst (rs[1].map Pt.v ++ rs[0].map Pt.v)) hq3)
          refine ⟨q3, rs[1] ++ rs[0], rfl, SqL.of (by rw [upd_same, List.map_append]), Nat.le_trans g2 (by decide), Nat.le_trans g1 (by decide), g3, fun u H10 s10 u0 hu10 => ?_⟩
          have sA := Same.trans sq3 s10
          have tu : Tp H10 (.ref u) (normal [rs[1], rs[0]].flatten).d := by
            rw [e2]
            exact tp_rc hu10
          obtain ⟨room2, G2⟩ := next H10 (.ref u) uD sA tu (sA _ _ hD9)
          exact ⟨Dl, _, _, rfl, rfl, sA _ _ hD9, room2, rfl, _, G2⟩
        · exact ⟨rfl, _, ⟨G.pen, G.hR, G.he, G.hF, G.hD, G.nr, Nat.le_trans G.len (by decide), G.nFD, G.nFR, G.nDR, G.nFe, G.nDe, G.nF, G.nD⟩⟩
      rintro σ H9 ⟨rfl, ds2, G2⟩
      refine ⟨fun σ H' => σ = [some (.ref a), some (.ref p), some (.int (0 + (i : Int))), some wv, some (.ref l), some (.ref R), v6', v7', v8', some (.ref e), v10', some (.ref Fl), some (.ref Dl)] ∧ ∃ ds, FD p c R e Fl Dl rs ds 4 H', ?_, ?_⟩
      · obtain ⟨us, hu, au, lu⟩ := look G2
        refine ⟨_, rfl, R, _, rfl, .inl (SqL.of hu), rfl, _, rfl, ?_⟩
        rw [lu]
        refine ite2 (fun c1 => ?_) (fun c1 => ?_)
        · have l4 : rs.length = 4 := by
            have z := of_decide_eq_true c1
            injection z with z
            omega
          have lt0 : 0 < rs.length := by omega
          have lt1 : 1 < rs.length := by omega
          have lt2 : 2 < rs.length := by omega
          have lt3 : 3 < rs.length := by omega
          obtain ⟨v0, h0, t0⟩ := au.at (List.getElem?_eq_getElem lt0)
          obtain ⟨v1, h1, t1⟩ := au.at (List.getElem?_eq_getElem lt1)
          obtain ⟨v2', h2, t2'⟩ := au.at (List.getElem?_eq_getElem lt2)
          obtain ⟨v3', h3, t3⟩ := au.at (List.getElem?_eq_getElem lt3)
          have four : [rs[0], rs[1], rs[2], rs[3]] = rs := by
            match rs, l4 with
            | [r0, r1, r2, r3], _ => rfl
          obtain ⟨uF, hF⟩ := lookF G2
          have all4 : TpAll H9 [v0, v1, v2', v3'] (rs.map Rc.d) := by
            rw [← four]
            exact .cons t0 (.cons t1 (.cons t2' (.cons t3 .nil)))
          refine ⟨_, rfl, .inl ⟨rfl, _, SqL.of hF⟩, _, rfl, R, us, _, _, rfl, rfl, SqL.of hu, atI_nat (j := 0) h0, _, rfl, R, us, _, _, rfl, rfl, SqL.of hu, atI_nat (j := 1) h1, _, rfl, R, us, _, _, rfl, rfl, SqL.of hu, atI_nat (j := 2) h2, _, rfl, R, us, _, _, rfl, rfl, SqL.of hu, atI_nat (j := 3) h3, rs, all4, jok_rows rok rsl, fun t H10 s10 ht => ?_⟩
          obtain ⟨room, next⟩ := G2.both (by decide) (nr_rows rok rsl) s10 (tp_rc ht) (s10 _ _ hF)
          refine ⟨Fl, _, _, rfl, rfl, s10 _ _ hF, room, ?_⟩
          obtain ⟨uD, hD⟩ := lookD (G2.same s10)
          have hD10 : upd H10 Fl (.lst (uF ++ [.ref t])) Dl = some (.lst uD) := by
            rw [upd_ne G2.nFD.symm]
            exact hD
          have he10 : upd H10 Fl (.lst (uF ++ [.ref t])) e = some (.lst (rs.flatten.map Pt.v)) := by
            rw [upd_ne G2.nFe.symm]
            exact s10 _ _ G2.he
          refine ⟨_, rfl, .inl ⟨rfl, _, SqL.of hD10⟩, _, rfl, e, rs.flatten, rfl, SqL.of he10, Nat.le_trans f2 (by decide), Nat.le_trans f1 (by decide), f3, fun u H11 s11 u0 hu11 => ?_⟩
          obtain ⟨room2, G3⟩ := next H11 (.ref u) uD s11 (tp_rc hu11) (s11 _ _ hD10)
          exact ⟨Dl, _, _, rfl, rfl, s11 _ _ hD10, room2, rfl, _, G3⟩
        · exact ⟨rfl, _, ⟨G2.pen, G2.hR, G2.he, G2.hF, G2.hD, G2.nr, Nat.le_trans G2.len (by decide), G2.nFD, G2.nFR, G2.nDR, G2.nFe, G2.nDe, G2.nF, G2.nD⟩⟩
      rintro σ H10 ⟨rfl, ds3, G3⟩
      obtain ⟨uF, hF, aF⟩ := G3.hF
      obtain ⟨uD, hD, aD⟩ := G3.hD
      have nn : Neat 2 40000 (.list (ds3.map Rc.d)) := by
        have z := (neatAll_map (k := 1) (a := 7000) (g := Rc.d) fun r hr => neat_nr (G3.nr r hr)).lst
        have z2 := G3.len
        exact z.le (Nat.le_refl _) (by omega)
      refine ⟨_, rfl, _, _, 2, 40000, rfl, .lst (SqL.of hF) aF.dp, nn, by decide, by decide, ?_⟩
      refine ⟨_, rfl, _, _, 2, 40000, rfl, .lst (SqL.of hD) aD.dp, nn, by decide, by decide, ?_⟩
      refine ⟨rfl, _, rfl, iteF' (same_false _) ?_⟩
      exact ⟨⟨_, _, _, _, _, _, _, _, _, _, _, rfl⟩, G3.pen⟩
    · rintro σ H2 ⟨⟨v2, v3, v4, v5, v6, v7, v8, v9, v10, v11, v12, rfl⟩, hP2⟩
      exact k _
end

/-! ### what the top has written, the head -/
theorem all_mk {l : PySem.W.OpenLaw} {w : World} {K : PySem.W.Frag} {h : Heap} {mg : Str → Option Value} {fa f0 f1 f2 f3 f4 f5 f6 f7 f8 f9 f10 f11 f12 f13 f14 f15 f16 f17 f18 : Addr} (X : K.In h) (G : h.Ns mainGlobals mg) (named : mg "law" = some (.ref fa))
    {od0 an0 od1 an1 od2 an2 od3 an3 od4 an4 od5 an5 od6 an6 od7 an7 od8 an8 od9 an9 od10 an10 od11 an11 od12 an12 od13 an13 od14 an14 od15 an15 od16 an16 od17 an17 od18 an18 : Option Addr} {sl0 sl1 sl2 sl3 sl4 sl5 sl6 sl7 sl8 sl9 sl10 sl11 sl12 sl13 sl14 sl15 sl16 sl17 sl18 : Array (Option Value)} {oc0 kV0 dc0 pm0 cd0 ct0 oc1 kV1 dc1 pm1 cd1 ct1 oc2 kV2 dc2 pm2 cd2 ct2 oc3 kV3 dc3 pm3 cd3 ct3 oc4 kV4 dc4 pm4 cd4 ct4 oc5 kV5 dc5 pm5 cd5 ct5 oc6 kV6 dc6 pm6 cd6 ct6 oc7 kV7 dc7 pm7 cd7 ct7 oc8 kV8 dc8 pm8 cd8 ct8 oc9 kV9 dc9 pm9 cd9 ct9 oc10 kV10 dc10 pm10 cd10 ct10 oc11 kV11 dc11 pm11 cd11 ct11 oc12 kV12 dc12 pm12 cd12 ct12 oc13 kV13 dc13 pm13 cd13 ct13 oc14 kV14 dc14 pm14 cd14 ct14 oc15 kV15 dc15 pm15 cd15 ct15 oc16 kV16 dc16 pm16 cd16 ct16 oc17 kV17 dc17 pm17 cd17 ct17 oc18 kV18 dc18 pm18 cd18 ct18 : Value}
    (a0 : PySem.W.nsIn K mainGlobals "is_small" = some (some (.ref f0))) (l0 : K.lookup f0 = some ⟨oc0, od0, .func (PySem.W.fnOf "is_small" "is_small" (C8.fnArgs st_is_small_) (fnBody st_is_small_) (fnScope st_is_small_) .none kV0 dc0 pm0 an0 cd0 ct0), sl0⟩) (c0 : PySem.W.codeIn K cd0 "is_small" = true) (k0 : PySem.W.keepIn K (.ref f0) = true)
    (a1 : PySem.W.nsIn K mainGlobals "most_letters" = some (some (.ref f1))) (l1 : K.lookup f1 = some ⟨oc1, od1, .func (PySem.W.fnOf "most_letters" "most_letters" (C8.fnArgs st_most_letters_) (fnBody st_most_letters_) (fnScope st_most_letters_) .none kV1 dc1 pm1 an1 cd1 ct1), sl1⟩) (c1 : PySem.W.codeIn K cd1 "most_letters" = true) (k1 : PySem.W.keepIn K (.ref f1) = true)
    (a2 : PySem.W.nsIn K mainGlobals "joined" = some (some (.ref f2))) (l2 : K.lookup f2 = some ⟨oc2, od2, .func (PySem.W.fnOf "joined" "joined" (C8.fnArgs st_joined_) (fnBody st_joined_) (fnScope st_joined_) .none kV2 dc2 pm2 an2 cd2 ct2), sl2⟩) (c2 : PySem.W.codeIn K cd2 "joined" = true) (k2 : PySem.W.keepIn K (.ref f2) = true)
    (a3 : PySem.W.nsIn K mainGlobals "letters_in" = some (some (.ref f3))) (l3 : K.lookup f3 = some ⟨oc3, od3, .func (PySem.W.fnOf "letters_in" "letters_in" (C8.fnArgs st_letters_in_) (fnBody st_letters_in_) (fnScope st_letters_in_) .none kV3 dc3 pm3 an3 cd3 ct3), sl3⟩) (c3 : PySem.W.codeIn K cd3 "letters_in" = true) (k3 : PySem.W.keepIn K (.ref f3) = true)
    (a4 : PySem.W.nsIn K mainGlobals "_law_pen" = some (some (.ref f4))) (l4 : K.lookup f4 = some ⟨oc4, od4, .func (PySem.W.fnOf "_law_pen" "_law_pen" (C8.fnArgs st_law_pen) (fnBody st_law_pen) (fnScope st_law_pen) .none kV4 dc4 pm4 an4 cd4 ct4), sl4⟩) (c4 : PySem.W.codeIn K cd4 "_law_pen" = true) (k4 : PySem.W.keepIn K (.ref f4) = true)
    (a5 : PySem.W.nsIn K mainGlobals "_law_fresh" = some (some (.ref f5))) (l5 : K.lookup f5 = some ⟨oc5, od5, .func (PySem.W.fnOf "_law_fresh" "_law_fresh" (C8.fnArgs st_law_fresh) (fnBody st_law_fresh) (fnScope st_law_fresh) .none kV5 dc5 pm5 an5 cd5 ct5), sl5⟩) (c5 : PySem.W.codeIn K cd5 "_law_fresh" = true) (k5 : PySem.W.keepIn K (.ref f5) = true)
    (a6 : PySem.W.nsIn K mainGlobals "_law_draw" = some (some (.ref f6))) (l6 : K.lookup f6 = some ⟨oc6, od6, .func (PySem.W.fnOf "_law_draw" "_law_draw" (C8.fnArgs st_law_draw) (fnBody st_law_draw) (fnScope st_law_draw) .none kV6 dc6 pm6 an6 cd6 ct6), sl6⟩) (c6 : PySem.W.codeIn K cd6 "_law_draw" = true) (k6 : PySem.W.keepIn K (.ref f6) = true)
    (a7 : PySem.W.nsIn K mainGlobals "_law_one_of" = some (some (.ref f7))) (l7 : K.lookup f7 = some ⟨oc7, od7, .func (PySem.W.fnOf "_law_one_of" "_law_one_of" (C8.fnArgs st_law_one_of) (fnBody st_law_one_of) (fnScope st_law_one_of) .none kV7 dc7 pm7 an7 cd7 ct7), sl7⟩) (c7 : PySem.W.codeIn K cd7 "_law_one_of" = true) (k7 : PySem.W.keepIn K (.ref f7) = true)
    (a8 : PySem.W.nsIn K mainGlobals "_law_piece" = some (some (.ref f8))) (l8 : K.lookup f8 = some ⟨oc8, od8, .func (PySem.W.fnOf "_law_piece" "_law_piece" (C8.fnArgs st_law_piece) (fnBody st_law_piece) (fnScope st_law_piece) .none kV8 dc8 pm8 an8 cd8 ct8), sl8⟩) (c8 : PySem.W.codeIn K cd8 "_law_piece" = true) (k8 : PySem.W.keepIn K (.ref f8) = true)
    (a9 : PySem.W.nsIn K mainGlobals "_law_normal" = some (some (.ref f9))) (l9 : K.lookup f9 = some ⟨oc9, od9, .func (PySem.W.fnOf "_law_normal" "_law_normal" (C8.fnArgs st_law_normal) (fnBody st_law_normal) (fnScope st_law_normal) .none kV9 dc9 pm9 an9 cd9 ct9), sl9⟩) (c9 : PySem.W.codeIn K cd9 "_law_normal" = true) (k9 : PySem.W.keepIn K (.ref f9) = true)
    (a10 : PySem.W.nsIn K mainGlobals "_law_fill" = some (some (.ref f10))) (l10 : K.lookup f10 = some ⟨oc10, od10, .func (PySem.W.fnOf "_law_fill" "_law_fill" (C8.fnArgs st_law_fill) (fnBody st_law_fill) (fnScope st_law_fill) .none kV10 dc10 pm10 an10 cd10 ct10), sl10⟩) (c10 : PySem.W.codeIn K cd10 "_law_fill" = true) (k10 : PySem.W.keepIn K (.ref f10) = true)
    (a11 : PySem.W.nsIn K mainGlobals "_law_fills" = some (some (.ref f11))) (l11 : K.lookup f11 = some ⟨oc11, od11, .func (PySem.W.fnOf "_law_fills" "_law_fills" (C8.fnArgs st_law_fills) (fnBody st_law_fills) (fnScope st_law_fills) .none kV11 dc11 pm11 an11 cd11 ct11), sl11⟩) (c11 : PySem.W.codeIn K cd11 "_law_fills" = true) (k11 : PySem.W.keepIn K (.ref f11) = true)
    (a12 : PySem.W.nsIn K mainGlobals "_law_end" = some (some (.ref f12))) (l12 : K.lookup f12 = some ⟨oc12, od12, .func (PySem.W.fnOf "_law_end" "_law_end" (C8.fnArgs st_law_end) (fnBody st_law_end) (fnScope st_law_end) .none kV12 dc12 pm12 an12 cd12 ct12), sl12⟩) (c12 : PySem.W.codeIn K cd12 "_law_end" = true) (k12 : PySem.W.keepIn K (.ref f12) = true)
    (a13 : PySem.W.nsIn K mainGlobals "_law_writer" = some (some (.ref f13))) (l13 : K.lookup f13 = some ⟨oc13, od13, .func (PySem.W.fnOf "_law_writer" "_law_writer" (C8.fnArgs st_law_writer) (fnBody st_law_writer) (fnScope st_law_writer) .none kV13 dc13 pm13 an13 cd13 ct13), sl13⟩) (c13 : PySem.W.codeIn K cd13 "_law_writer" = true) (k13 : PySem.W.keepIn K (.ref f13) = true)
    (a14 : PySem.W.nsIn K mainGlobals "_law_at" = some (some (.ref f14))) (l14 : K.lookup f14 = some ⟨oc14, od14, .func (PySem.W.fnOf "_law_at" "_law_at" (C8.fnArgs st_law_at) (fnBody st_law_at) (fnScope st_law_at) .none kV14 dc14 pm14 an14 cd14 ct14), sl14⟩) (c14 : PySem.W.codeIn K cd14 "_law_at" = true) (k14 : PySem.W.keepIn K (.ref f14) = true)
    (a15 : PySem.W.nsIn K mainGlobals "_law_letters" = some (some (.ref f15))) (l15 : K.lookup f15 = some ⟨oc15, od15, .func (PySem.W.fnOf "_law_letters" "_law_letters" (C8.fnArgs st_law_letters) (fnBody st_law_letters) (fnScope st_law_letters) .none kV15 dc15 pm15 an15 cd15 ct15), sl15⟩) (c15 : PySem.W.codeIn K cd15 "_law_letters" = true) (k15 : PySem.W.keepIn K (.ref f15) = true)
    (a16 : PySem.W.nsIn K mainGlobals "_law_sized" = some (some (.ref f16))) (l16 : K.lookup f16 = some ⟨oc16, od16, .func (PySem.W.fnOf "_law_sized" "_law_sized" (C8.fnArgs st_law_sized) (fnBody st_law_sized) (fnScope st_law_sized) .none kV16 dc16 pm16 an16 cd16 ct16), sl16⟩) (c16 : PySem.W.codeIn K cd16 "_law_sized" = true) (k16 : PySem.W.keepIn K (.ref f16) = true)
    (a17 : PySem.W.nsIn K mainGlobals "_law_small" = some (some (.ref f17))) (l17 : K.lookup f17 = some ⟨oc17, od17, .func (PySem.W.fnOf "_law_small" "_law_small" (C8.fnArgs st_law_small) (fnBody st_law_small) (fnScope st_law_small) .none kV17 dc17 pm17 an17 cd17 ct17), sl17⟩) (c17 : PySem.W.codeIn K cd17 "_law_small" = true) (k17 : PySem.W.keepIn K (.ref f17) = true)
    (a18 : PySem.W.nsIn K mainGlobals "law" = some (some (.ref f18))) (l18 : K.lookup f18 = some ⟨oc18, od18, .func (PySem.W.fnOf "law" "law" (C8.fnArgs st_law_) (fnBody st_law_) (fnScope st_law_) .none kV18 dc18 pm18 an18 cd18 ct18), sl18⟩) (c18 : PySem.W.codeIn K cd18 "law" = true) (k18 : PySem.W.keepIn K (.ref f18) = true)
    {t_SMALL_STATES : Tok} (s_SMALL_STATES : PySem.W.nsIn K mainGlobals "SMALL_STATES" = some (some (.int 4 t_SMALL_STATES)))
    {t_SMALL_KINDS : Tok} (s_SMALL_KINDS : PySem.W.nsIn K mainGlobals "SMALL_KINDS" = some (some (.int 3 t_SMALL_KINDS)))
    {t_SMALL_BUFFERS : Tok} (s_SMALL_BUFFERS : PySem.W.nsIn K mainGlobals "SMALL_BUFFERS" = some (some (.int 2 t_SMALL_BUFFERS)))
    {t_SMALL_LETTERS : Tok} (s_SMALL_LETTERS : PySem.W.nsIn K mainGlobals "SMALL_LETTERS" = some (some (.int 24 t_SMALL_LETTERS)))
    (z_list : PySem.W.nsIn K mainGlobals "list" = some none)
    (z_int : PySem.W.nsIn K mainGlobals "int" = some none)
    (z_len : PySem.W.nsIn K mainGlobals "len" = some none)
    (z_range : PySem.W.nsIn K mainGlobals "range" = some none)
    (z_tuple : PySem.W.nsIn K mainGlobals "tuple" = some none)
    (z_isinstance : PySem.W.nsIn K mainGlobals "isinstance" = some none)
    (z_str : PySem.W.nsIn K mainGlobals "str" = some none)
    (z_sum : PySem.W.nsIn K mainGlobals "sum" = some none)
    (z_all : PySem.W.nsIn K mainGlobals "all" = some none)
    (z_max : PySem.W.nsIn K mainGlobals "max" = some none)
    (z_repr : PySem.W.nsIn K mainGlobals "repr" = some none) :
    ∃ fd : FuncData, (∀ (s : Shared) (u : Value), BindsTo s fd ⟨[u], []⟩ [("script", u)]) ∧ ∀ base : Heap, K.In base → base.Ns mainGlobals mg → FnG l.prog w K mg base 9 fa fd ["script"] (spLaw K) := by
  have e := named.symm.trans (PySem.W.mg_of X G a18)
  cases e
  have F0 : C8.Fun K "is_small" "is_small" st_is_small_ f0 _ := ⟨⟨_, _, _, _, _, _, _, _, _, _, rfl, l0, c0⟩⟩
  have Dis_small : C8.Def K mg "is_small" st_is_small_ f0 _ := ⟨F0, PySem.W.mg_of X G a0, k0⟩
  have bis_small := F0.binds rfl (ps := ["writer"]) fun _ _ _ _ _ _ us hl => match us, hl with | [_], _ => rfl
  have F1 : C8.Fun K "most_letters" "most_letters" st_most_letters_ f1 _ := ⟨⟨_, _, _, _, _, _, _, _, _, _, rfl, l1, c1⟩⟩
  have Dmost_letters : C8.Def K mg "most_letters" st_most_letters_ f1 _ := ⟨F1, PySem.W.mg_of X G a1, k1⟩
  have bmost_letters := F1.binds rfl (ps := ["writer"]) fun _ _ _ _ _ _ us hl => match us, hl with | [_], _ => rfl
  have F2 : C8.Fun K "joined" "joined" st_joined_ f2 _ := ⟨⟨_, _, _, _, _, _, _, _, _, _, rfl, l2, c2⟩⟩
  have F3 : C8.Fun K "letters_in" "letters_in" st_letters_in_ f3 _ := ⟨⟨_, _, _, _, _, _, _, _, _, _, rfl, l3, c3⟩⟩
  have Dletters_in : C8.Def K mg "letters_in" st_letters_in_ f3 _ := ⟨F3, PySem.W.mg_of X G a3, k3⟩
  have bletters_in := F3.binds rfl (ps := ["recipes"]) fun _ _ _ _ _ _ us hl => match us, hl with | [_], _ => rfl
  have F4 : C8.Fun K "_law_pen" "_law_pen" st_law_pen f4 _ := ⟨⟨_, _, _, _, _, _, _, _, _, _, rfl, l4, c4⟩⟩
  have D_law_pen : C8.Def K mg "_law_pen" st_law_pen f4 _ := ⟨F4, PySem.W.mg_of X G a4, k4⟩
  have b_law_pen := F4.binds rfl (ps := ["script"]) fun _ _ _ _ _ _ us hl => match us, hl with | [_], _ => rfl
  have F5 : C8.Fun K "_law_fresh" "_law_fresh" st_law_fresh f5 _ := ⟨⟨_, _, _, _, _, _, _, _, _, _, rfl, l5, c5⟩⟩
  have D_law_fresh : C8.Def K mg "_law_fresh" st_law_fresh f5 _ := ⟨F5, PySem.W.mg_of X G a5, k5⟩
  have b_law_fresh := F5.binds rfl (ps := ["pen"]) fun _ _ _ _ _ _ us hl => match us, hl with | [_], _ => rfl
  have F6 : C8.Fun K "_law_draw" "_law_draw" st_law_draw f6 _ := ⟨⟨_, _, _, _, _, _, _, _, _, _, rfl, l6, c6⟩⟩
  have D_law_draw : C8.Def K mg "_law_draw" st_law_draw f6 _ := ⟨F6, PySem.W.mg_of X G a6, k6⟩
  have b_law_draw := F6.binds rfl (ps := ["pen", "bound"]) fun _ _ _ _ _ _ us hl => match us, hl with | [_, _], _ => rfl
  have F7 : C8.Fun K "_law_one_of" "_law_one_of" st_law_one_of f7 _ := ⟨⟨_, _, _, _, _, _, _, _, _, _, rfl, l7, c7⟩⟩
  have D_law_one_of : C8.Def K mg "_law_one_of" st_law_one_of f7 _ := ⟨F7, PySem.W.mg_of X G a7, k7⟩
  have b_law_one_of := F7.binds rfl (ps := ["pen", "rows"]) fun _ _ _ _ _ _ us hl => match us, hl with | [_, _], _ => rfl
  have F8 : C8.Fun K "_law_piece" "_law_piece" st_law_piece f8 _ := ⟨⟨_, _, _, _, _, _, _, _, _, _, rfl, l8, c8⟩⟩
  have D_law_piece : C8.Def K mg "_law_piece" st_law_piece f8 _ := ⟨F8, PySem.W.mg_of X G a8, k8⟩
  have b_law_piece := F8.binds rfl (ps := ["pen", "most"]) fun _ _ _ _ _ _ us hl => match us, hl with | [_, _], _ => rfl
  have F9 : C8.Fun K "_law_normal" "_law_normal" st_law_normal f9 _ := ⟨⟨_, _, _, _, _, _, _, _, _, _, rfl, l9, c9⟩⟩
  have D_law_normal : C8.Def K mg "_law_normal" st_law_normal f9 _ := ⟨F9, PySem.W.mg_of X G a9, k9⟩
  have b_law_normal := F9.binds rfl (ps := ["parts"]) fun _ _ _ _ _ _ us hl => match us, hl with | [_], _ => rfl
  have F10 : C8.Fun K "_law_fill" "_law_fill" st_law_fill f10 _ := ⟨⟨_, _, _, _, _, _, _, _, _, _, rfl, l10, c10⟩⟩
  have D_law_fill : C8.Def K mg "_law_fill" st_law_fill f10 _ := ⟨F10, PySem.W.mg_of X G a10, k10⟩
  have b_law_fill := F10.binds rfl (ps := ["pen", "left", "own"]) fun _ _ _ _ _ _ us hl => match us, hl with | [_, _, _], _ => rfl
  have F11 : C8.Fun K "_law_fills" "_law_fills" st_law_fills f11 _ := ⟨⟨_, _, _, _, _, _, _, _, _, _, rfl, l11, c11⟩⟩
  have D_law_fills : C8.Def K mg "_law_fills" st_law_fills f11 _ := ⟨F11, PySem.W.mg_of X G a11, k11⟩
  have b_law_fills := F11.binds rfl (ps := ["pen", "buffers"]) fun _ _ _ _ _ _ us hl => match us, hl with | [_, _], _ => rfl
  have F12 : C8.Fun K "_law_end" "_law_end" st_law_end f12 _ := ⟨⟨_, _, _, _, _, _, _, _, _, _, rfl, l12, c12⟩⟩
  have D_law_end : C8.Def K mg "_law_end" st_law_end f12 _ := ⟨F12, PySem.W.mg_of X G a12, k12⟩
  have b_law_end := F12.binds rfl (ps := ["pen", "buffers"]) fun _ _ _ _ _ _ us hl => match us, hl with | [_, _], _ => rfl
  have F13 : C8.Fun K "_law_writer" "_law_writer" st_law_writer f13 _ := ⟨⟨_, _, _, _, _, _, _, _, _, _, rfl, l13, c13⟩⟩
  have D_law_writer : C8.Def K mg "_law_writer" st_law_writer f13 _ := ⟨F13, PySem.W.mg_of X G a13, k13⟩
  have b_law_writer := F13.binds rfl (ps := ["pen", "count", "states", "buffers"]) fun _ _ _ _ _ _ us hl => match us, hl with | [_, _, _, _], _ => rfl
  have F14 : C8.Fun K "_law_at" "_law_at" st_law_at f14 _ := ⟨⟨_, _, _, _, _, _, _, _, _, _, rfl, l14, c14⟩⟩
  have D_law_at : C8.Def K mg "_law_at" st_law_at f14 _ := ⟨F14, PySem.W.mg_of X G a14, k14⟩
  have b_law_at := F14.binds rfl (ps := ["rows", "place", "thing"]) fun _ _ _ _ _ _ us hl => match us, hl with | [_, _, _], _ => rfl
  have F15 : C8.Fun K "_law_letters" "_law_letters" st_law_letters f15 _ := ⟨⟨_, _, _, _, _, _, _, _, _, _, rfl, l15, c15⟩⟩
  have D_law_letters : C8.Def K mg "_law_letters" st_law_letters f15 _ := ⟨F15, PySem.W.mg_of X G a15, k15⟩
  have b_law_letters := F15.binds rfl (ps := ["rows"]) fun _ _ _ _ _ _ us hl => match us, hl with | [_], _ => rfl
  have F16 : C8.Fun K "_law_sized" "_law_sized" st_law_sized f16 _ := ⟨⟨_, _, _, _, _, _, _, _, _, _, rfl, l16, c16⟩⟩
  have D_law_sized : C8.Def K mg "_law_sized" st_law_sized f16 _ := ⟨F16, PySem.W.mg_of X G a16, k16⟩
  have b_law_sized := F16.binds rfl (ps := ["pen"]) fun _ _ _ _ _ _ us hl => match us, hl with | [_], _ => rfl
  have F17 : C8.Fun K "_law_small" "_law_small" st_law_small f17 _ := ⟨⟨_, _, _, _, _, _, _, _, _, _, rfl, l17, c17⟩⟩
  have D_law_small : C8.Def K mg "_law_small" st_law_small f17 _ := ⟨F17, PySem.W.mg_of X G a17, k17⟩
  have b_law_small := F17.binds rfl (ps := ["writer"]) fun _ _ _ _ _ _ us hl => match us, hl with | [_], _ => rfl
  have F18 : C8.Fun K "law" "law" st_law_ _ _ := ⟨⟨_, _, _, _, _, _, _, _, _, _, rfl, l18, c18⟩⟩
  have m_list := PySem.W.mg_none_of X G z_list
  have m_int := PySem.W.mg_none_of X G z_int
  have m_len := PySem.W.mg_none_of X G z_len
  have m_range := PySem.W.mg_none_of X G z_range
  have m_tuple := PySem.W.mg_none_of X G z_tuple
  have m_isinstance := PySem.W.mg_none_of X G z_isinstance
  have m_str := PySem.W.mg_none_of X G z_str
  have m_sum := PySem.W.mg_none_of X G z_sum
  have m_all := PySem.W.mg_none_of X G z_all
  have m_max := PySem.W.mg_none_of X G z_max
  have m_repr := PySem.W.mg_none_of X G z_repr
  have B : BN3 mg := { list := m_list, int := m_int, len := m_len, range := m_range, tuple := m_tuple, isi := m_isinstance, str := m_str, sum := m_sum, all := m_all, max := m_max }
  have N : CN mg := { st := ⟨_, PySem.W.mg_of X G s_SMALL_STATES⟩, ki := ⟨_, PySem.W.mg_of X G s_SMALL_KINDS⟩, bu := ⟨_, PySem.W.mg_of X G s_SMALL_BUFFERS⟩, le := ⟨_, PySem.W.mg_of X G s_SMALL_LETTERS⟩ }
  refine ⟨PySem.W.fnOf "law" "law" (C8.fnArgs st_law_) (fnBody st_law_) (fnScope st_law_) .none kV18 dc18 pm18 an18 cd18 ct18, fun s u => .of_eq rfl, fun base _ _ => ?_⟩
  have cpen : Cal l.prog w K mg base 1 "_law_pen" (spPen K) [] := cal_pen D_law_pen b_law_pen B.toBN2.toBN
  have cfresh : Cal l.prog w K mg base 1 "_law_fresh" spFresh [] := cal_fresh D_law_fresh b_law_fresh B.toBN2.toBN
  have cdraw : Cal l.prog w K mg base 2 "_law_draw" spDraw [] := cal_draw D_law_draw b_law_draw B.toBN2.toBN cfresh
  have cone : Cal l.prog w K mg base 3 "_law_one_of" (spOne K) [] := cal_one D_law_one_of b_law_one_of B.toBN2.toBN cdraw
  have cpiece : Cal l.prog w K mg base 4 "_law_piece" spPiece [] := cal_piece D_law_piece b_law_piece B.toBN2.toBN cdraw cone
  have cnormal : Cal l.prog w K mg base 1 "_law_normal" (spNormal K) [] := cal_normal D_law_normal b_law_normal B.toBN2
  have cfill : Cal l.prog w K mg base 5 "_law_fill" spFill [] := cal_fill D_law_fill b_law_fill B.toBN2 cdraw cone cpiece cnormal
  have cfills : Cal l.prog w K mg base 6 "_law_fills" spFills [] := cal_fills D_law_fills b_law_fills B.toBN2 cdraw cfill
  have cend : Cal l.prog w K mg base 6 "_law_end" spEnd [] := cal_end D_law_end b_law_end B.toBN2 cdraw cfill
  have cwriter : Cal l.prog w K mg base 7 "_law_writer" spWriter [] := cal_writer D_law_writer b_law_writer B.toBN2 cdraw cpiece cfills cend
  have cjoined : CalR l.prog w K mg base 1 "joined" spJoined := cal_joined_ l2 c2 k2 (PySem.W.mg_of X G a2) B.toBN2
  have clin : Cal l.prog w K mg base 1 "letters_in" spLetters [] := cal_lin Dletters_in bletters_in B
  have cplaces : Cal l.prog w K mg base 2 "most_letters" spMost [] := cal_most Dmost_letters bmost_letters B clin
  have csmall : Cal l.prog w K mg base 3 "is_small" spSmall [] := cal_is_small_ Dis_small bis_small B N cplaces
  have clletters : Cal l.prog w K mg base 1 "_law_letters" (spLLetters K) [] := cal_lletters D_law_letters b_law_letters B
  have clsmall : Cal l.prog w K mg base 2 "_law_small" spSmall [] := cal_lsmall D_law_small b_law_small B clletters
  have cat : Cal l.prog w K mg base 1 "_law_at" spAt [] := cal_at D_law_at b_law_at
  have csized : Cal l.prog w K mg base 8 "_law_sized" spSized [] := cal_sized D_law_sized b_law_sized B cdraw cone cwriter cat
  exact fn_law F18 B m_repr cpen cdraw csized csmall clsmall cpiece cnormal cjoined
end Toy

open PySem PySem.W PyProof.Rows in
set_option maxRecDepth 100000 in
set_option maxHeartbeats 0 in
theorem PySem.Challenge.cw_fewtests_k02_small_writers_and_recipes_j_holds : PySem.Challenge.rw_fewtests_k02_small_writers_and_recipes_j.Holds := by
  w_on; o_law; k_head; (case hw => w_witness2)
  k_fill
  refine Toy.walkG (l := PySem.Challenge.rw_fewtests_k02_small_writers_and_recipes_j) (k := 9) (sp := Toy.spLaw) (x := "script") rfl rfl ⟨rfl, by decide, by decide⟩ (fun w h Y => PySem.W.kIn_of Y) ?F (fun K H a ns few sq => ⟨a, ns, rfl, sq, fun _ => rfl⟩)
  case F =>
    intro w mg fa h KX G hmg
    refine' Toy.all_mk KX G hmg ?a0 ?l0 ?c0 ?k0 ?a1 ?l1 ?c1 ?k1 ?a2 ?l2 ?c2 ?k2 ?a3 ?l3 ?c3 ?k3 ?a4 ?l4 ?c4 ?k4 ?a5 ?l5 ?c5 ?k5 ?a6 ?l6 ?c6 ?k6 ?a7 ?l7 ?c7 ?k7 ?a8 ?l8 ?c8 ?k8 ?a9 ?l9 ?c9 ?k9 ?a10 ?l10 ?c10 ?k10 ?a11 ?l11 ?c11 ?k11 ?a12 ?l12 ?c12 ?k12 ?a13 ?l13 ?c13 ?k13 ?a14 ?l14 ?c14 ?k14 ?a15 ?l15 ?c15 ?k15 ?a16 ?l16 ?c16 ?k16 ?a17 ?l17 ?c17 ?k17 ?a18 ?l18 ?c18 ?k18 ?s_SMALL_STATES ?s_SMALL_KINDS ?s_SMALL_BUFFERS ?s_SMALL_LETTERS ?z_list ?z_int ?z_len ?z_range ?z_tuple ?z_isinstance ?z_str ?z_sum ?z_all ?z_max ?z_repr
    (case a0 => k_is)
    (case l0 => k_is)
    (case c0 => k_is)
    (case k0 => k_is)
    (case a1 => k_is)
    (case l1 => k_is)
    (case c1 => k_is)
    (case k1 => k_is)
    (case a2 => k_is)
    (case l2 => k_is)
    (case c2 => k_is)
    (case k2 => k_is)
    (case a3 => k_is)
    (case l3 => k_is)
    (case c3 => k_is)
    (case k3 => k_is)
    (case a4 => k_is)
    (case l4 => k_is)
    (case c4 => k_is)
    (case k4 => k_is)
    (case a5 => k_is)
    (case l5 => k_is)
    (case c5 => k_is)
    (case k5 => k_is)
    (case a6 => k_is)
    (case l6 => k_is)
    (case c6 => k_is)
    (case k6 => k_is)
    (case a7 => k_is)
    (case l7 => k_is)
    (case c7 => k_is)
    (case k7 => k_is)
    (case a8 => k_is)
    (case l8 => k_is)
    (case c8 => k_is)
    (case k8 => k_is)
    (case a9 => k_is)
    (case l9 => k_is)
    (case c9 => k_is)
    (case k9 => k_is)
    (case a10 => k_is)
    (case l10 => k_is)
    (case c10 => k_is)
    (case k10 => k_is)
    (case a11 => k_is)
    (case l11 => k_is)
    (case c11 => k_is)
    (case k11 => k_is)
    (case a12 => k_is)
    (case l12 => k_is)
    (case c12 => k_is)
    (case k12 => k_is)
    (case a13 => k_is)
    (case l13 => k_is)
    (case c13 => k_is)
    (case k13 => k_is)
    (case a14 => k_is)
    (case l14 => k_is)
    (case c14 => k_is)
    (case k14 => k_is)
    (case a15 => k_is)
    (case l15 => k_is)
    (case c15 => k_is)
    (case k15 => k_is)
    (case a16 => k_is)
    (case l16 => k_is)
    (case c16 => k_is)
    (case k16 => k_is)
    (case a17 => k_is)
    (case l17 => k_is)
    (case c17 => k_is)
    (case k17 => k_is)
    (case a18 => k_is)
    (case l18 => k_is)
    (case c18 => k_is)
    (case k18 => k_is)
    (case s_SMALL_STATES => k_is)
    (case s_SMALL_KINDS => k_is)
    (case s_SMALL_BUFFERS => k_is)
    (case s_SMALL_LETTERS => k_is)
    (case z_list => k_is)
    (case z_int => k_is)
    (case z_len => k_is)
    (case z_range => k_is)
    (case z_tuple => k_is)
    (case z_isinstance => k_is)
    (case z_str => k_is)
    (case z_sum => k_is)
    (case z_all => k_is)
    (case z_max => k_is)
    (case z_repr => k_is)
