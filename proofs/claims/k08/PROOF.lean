import PyProof.Rows.All
import Wide.All
import OpenK.AllK
import Wide.FinOn
import PyProof.Draws
import PyProof.Rows.SortShellAny
import HandS.Codes
import HandS.Conv
import HandS.DictComp
import HandS.ExcValue
import HandS.Flow
import HandS.ForMost
import HandS.GenList
import HandS.GenYield
import HandS.IsInst
import HandS.Replace
import HandS.Star
import HandS.Style
import HandS.TupAny
import HandS.TupMul
import HandS.Wide
import HandS.WideBits
import HandS.Zip
import PySem.Challenge.RW_fewtests_k08_shadows_told
set_option Elab.async false
set_option linter.all false
set_option maxRecDepth 100000
set_option maxHeartbeats 2000000
set_option pp.maxSteps 1500
set_option pp.deepTerms false
namespace Toy
open PySem L2
open C8 (Cal cal0 pe_c pss_cut fnScope fnBody fnScope_by)
/-! ### the text by places -/
def top (i : Nat) : Stmt := PySem.Challenge.pw_fewtests_k08_shadows_told.main.body.getD i (.Pass ⟨0, 0, 0, 0⟩)
abbrev st_number_of_ : Stmt := top 2
abbrev st_size_of_ : Stmt := top 3
abbrev st_shadow_ : Stmt := top 4
abbrev st_power_of_ : Stmt := top 5
abbrev st_measures_of_ : Stmt := top 6
abbrev st_shadow_of_ : Stmt := top 7
abbrev st_law_pen : Stmt := top 9
abbrev st_law_fresh : Stmt := top 10
abbrev st_law_draw : Stmt := top 11
abbrev st_law_one_of : Stmt := top 12
abbrev st_law_piece : Stmt := top 13
abbrev st_law_numbered : Stmt := top 14
abbrev st_law_shade : Stmt := top 15
abbrev st_law_texts : Stmt := top 16
abbrev st_law_hand_right : Stmt := top 17
abbrev st_law_ : Stmt := top 18

theorem iteT' {b : Bool} {A B : Prop} (e : b = true) (h : A) : if b = true then A else B := by
  rw [if_pos e]
  exact h
theorem iteF' {b : Bool} {A B : Prop} (e : b = false) (h : B) : if b = true then A else B := by
  rw [e]
  exact iteF h
/-! ### the pen -/
/-- the pen at p: cells at c (some ints), a place, what is left -/
def Pen (H : Hp) (p c : Addr) : Prop := ∃ (ns : List Int) (i j : Int), H p = some (.lst [.ref c, .int i, .int j]) ∧ H c = some (.lst (ns.map V.int))
theorem pen_ne {H : Hp} {p c : Addr} {ns : List Int} {i j : Int} (h : H p = some (.lst [.ref c, .int i, .int j])) (h2 : H c = some (.lst (ns.map V.int))) : p ≠ c := by
  refine ne_of h h2 fun e => ?_
  injection e with e
  cases ns with
  | nil => cases e
  | cons a r =>
    rw [List.map_cons] at e
    injection e with e1 e2
    cases e1
/-- all but p stands as it stood, the pen at p stands -/
structure Kp (p c : Addr) (H H' : Hp) : Prop where
  but : ∀ b o, b ≠ p → H b = some o → H' b = some o
  pen : Pen H' p c
theorem Kp.rfl' {p c : Addr} {H : Hp} (h : Pen H p c) : Kp p c H H := ⟨fun _ _ _ e => e, h⟩
theorem Kp.trans {p c : Addr} {H H1 H2 : Hp} (a : Kp p c H H1) (b : Kp p c H1 H2) : Kp p c H H2 := ⟨fun x o n e => b.but x o n (a.but x o n e), b.pen⟩
theorem Pen.ne {H : Hp} {p c q : Addr} (h : Pen H p c) (hq : H q = none) : q ≠ p := by
  obtain ⟨ns, i, j, h1, _⟩ := h
  exact (ne_of_none h1 hq).symm
theorem Pen.neC {H : Hp} {p c q : Addr} (h : Pen H p c) (hq : H q = none) : q ≠ c := by
  obtain ⟨ns, i, j, _, h1⟩ := h
  exact (ne_of_none h1 hq).symm
theorem Pen.put {H : Hp} {p c q : Addr} {o : HO} (h : Pen H p c) (n1 : q ≠ p) (n2 : q ≠ c) : Pen (upd H q o) p c := by
  obtain ⟨ns, i, j, h1, h2⟩ := h
  exact ⟨ns, i, j, by rw [upd_ne n1.symm]; exact h1, by rw [upd_ne n2.symm]; exact h2⟩
theorem Pen.new {H : Hp} {p c q : Addr} {o : HO} (h : Pen H p c) (hq : H q = none) : Pen (upd H q o) p c := h.put (h.ne hq) (h.neC hq)
theorem Kp.new {H H' : Hp} {p c q : Addr} {o : HO} (h : Kp p c H H') (hq : H' q = none) : Kp p c H (upd H' q o) :=
  ⟨fun b u n e => by rw [upd_ne (ne_of_none (h.but b u n e) hq)]; exact h.but b u n e, h.pen.new hq⟩
/-- something made since is changed -/
theorem Kp.put {H H' : Hp} {p c q : Addr} {o : HO} (h : Kp p c H H') (hP : Pen H p c) (hq : H q = none) : Kp p c H (upd H' q o) :=
  ⟨fun b u n e => by rw [upd_ne (ne_of_none e hq)]; exact h.but b u n e, h.pen.put (hP.ne hq) (hP.neC hq)⟩
theorem Kp.free {H H' : Hp} {p c q : Addr} (h : Kp p c H H') (hq : H' q = none) : H q = none := by
  cases e : H q with
  | none => rfl
  | some o =>
    rw [h.but q o (h.pen.ne hq) e] at hq
    cases hq
theorem Kp.seqL {K : PySem.W.Frag} {p c a : Addr} {H H' : Hp} {xs : List V} (k : Kp p c H H') (n : a ≠ p) (h : SqL K H a xs) : SqL K H' a xs := by
  rcases h with (h | ⟨o, h⟩) | h
  · exact .inl (.inl (k.but _ _ n h))
  · exact .inl (.inr ⟨o, k.but _ _ n h⟩)
  · exact .inr h

/-- the built-in names that these defs read -/
structure BN (mg : Str → Option Value) : Prop where
  list : mg "list" = none
  int : mg "int" = none
  len : mg "len" = none
  range : mg "range" = none

def spPen (K : PySem.W.Frag) : Sp := fun vs H Q _ => ∃ (a : Addr) (ns : List Int), vs = [.ref a] ∧ SqL K H a (ns.map V.int) ∧
  ∀ H' p c, Same H H' → Pen H' p c → H p = none → Q (.ref p) H'
def spFresh : Sp := fun vs H Q _ => ∃ p c : Addr, vs = [.ref p] ∧ Pen H p c ∧ ∀ (z : Int) H', Kp p c H H' → Q (.int z) H'
/-- a number from 0 to b - 1 -/
def spDraw : Sp := fun vs H Q _ => ∃ (p c : Addr) (b : Int), vs = [.ref p, .int b] ∧ Pen H p c ∧ 0 < b ∧ b.natAbs.log2 < 9000 ∧
  ∀ (d : Int) H', 0 ≤ d → d < b → Kp p c H H' → Q (.int d) H'

theorem sc_pen : FnScope ["script"] ["script"] (fnScope st_law_pen) := fnScope_by (by decide +kernel)
theorem sc_fresh : FnScope ["pen", "place", "cells", "cell", "prime", "state", "found", "lap"] ["pen"] (fnScope st_law_fresh) := fnScope_by (by decide +kernel)
theorem sc_draw : FnScope ["pen", "bound", "digit"] ["pen", "bound"] (fnScope st_law_draw) := fnScope_by (by decide +kernel)

/-- a list of ints is data -/
theorem dp_ints {K : PySem.W.Frag} {H : Hp} : ∀ ns : List Int, DpAll K H (ns.map V.int) (ns.map PyData.int)
  | [] => .nil
  | n :: r => .cons (.int n) (dp_ints r)
theorem shaped_ints (ns : List Int) : SeqAt.shaped (.list (ns.map PyData.int)) = true := by
  have h : ∀ l : List Int, PyData.canLayAll0 (l.map PyData.int) = true ∧ PyData.depthAll (l.map PyData.int) = 0 := by
    intro l
    induction l with
    | nil => exact ⟨by simp only [List.map_nil, PyData.canLayAll0], by simp only [List.map_nil, PyData.depthAll]⟩
    | cons a r ih => exact ⟨by simp only [List.map_cons, PyData.canLayAll0, PyData.canLay0, ih.1, Bool.and_self], by simp only [List.map_cons, PyData.depthAll, PyData.depth, ih.2, Nat.max_self]⟩
  unfold SeqAt.shaped
  simp only [PyData.canLay0, PyData.depth, (h ns).1, (h ns).2, Bool.true_and]
  decide
theorem ints_ne_nil (ns : List Int) : (!PyData.eqv (.list (ns.map PyData.int)) (.list [])) = !ns.isEmpty := by
  cases ns with
  | nil => simp only [List.map_nil, PyData.eqv, PyData.eqvAll, List.isEmpty_nil]
  | cons a r => simp only [List.map_cons, PyData.eqv, PyData.eqvAll, List.isEmpty_cons]
theorem prime_ok : (-(2 ^ 64) < (2305843009213693951 : Int) ∧ (2305843009213693951 : Int) < 2 ^ 64) := by decide

section
variable {P : Program} {w : World} {K : PySem.W.Frag} {mg : Str → Option Value} {base : Heap} {f : Addr} {fd : FuncData}
theorem cal_pen (F : C8.Def K mg "_law_pen" st_law_pen f fd) (b : Binds K fd ["script"] []) (B : BN mg) : Cal P w K mg base 1 "_law_pen" (spPen K) [] := by
  refine cal0 F b .nil sc_pen (fun vs H Q E h => ?_) (fun cdv A outer s H vs Q E hr h => ?_)
  · obtain ⟨a, ns, rfl, _⟩ := h
    rfl
  · obtain ⟨a, ns, rfl, hS, k⟩ := h
    refine ⟨_, pss_one (ps_ret (pe_lst (pa_cons (pe_callTy call_list_of (by rfl) B.list (by decide +kernel) (pa_cons (pe_slice sl_list (pv 0) po_none (po_some pe_int)) pa_nil)) (pa_cons pe_int (pa_cons pe_int pa_nil))))), ?_⟩
    refine ⟨_, rfl, _, rfl, a, _, rfl, hS, fun p hp => ?_⟩
    refine ⟨p, _, rfl, .inl (SqL.of upd_same), fun l hl => ?_⟩
    refine ⟨(by show 3 ≤ sizeLine; decide), fun q hq => ?_⟩
    have hl0 : H l = none := by
      have n : l ≠ p := fun z => by
        rw [z, upd_same] at hl
        cases hl
      rw [upd_ne n] at hl
      exact hl
    have s1 : Same H (upd (upd H p (.lst (cutV (ns.map V.int) none (some 63)))) l (.lst (cutV (ns.map V.int) none (some 63)))) := fun b o e => by
      rw [upd_ne (ne_of_none e hl0), upd_ne (ne_of_none e hp)]
      exact e
    obtain ⟨ms, hms⟩ : ∃ ms : List Int, cutV (ns.map V.int) none (some 63) = ms.map V.int := by
      unfold cutV
      rw [← List.map_drop, ← List.map_take]
      exact ⟨_, rfl⟩
    refine k _ q l (fun b o e => ?_) ⟨ms, 0, 0, upd_same, ?_⟩ (s1.free hq)
    · rw [upd_ne (ne_of_none (s1 b o e) hq)]
      exact s1 b o e
    · have n : l ≠ q := fun z => by
        rw [← z, upd_same] at hq
        cases hq
      rw [upd_ne n, upd_same, hms]
theorem cal_fresh (F : C8.Def K mg "_law_fresh" st_law_fresh f fd) (b : Binds K fd ["pen"] []) (B : BN mg) : Cal P w K mg base 1 "_law_fresh" spFresh [] := by
  refine cal0 F b .nil sc_fresh (fun vs H Q E h => ?_) (fun cdv A outer s H vs Q E hr h => ?_)
  · obtain ⟨p, c, rfl, _⟩ := h
    rfl
  · obtain ⟨p, c, rfl, ⟨ns, i, j, hp, hc⟩, k⟩ := h
    have hpc := pen_ne hp hc
    refine ⟨_, pss_cons (ps_par (i := 1) (j := 2) rfl sc_fresh.nd rfl rfl (by decide) rfl rfl (pa_cons (pe_ix ix_list (pv 0) pe_int (fun _ _ => rfl)) (pa_cons (pe_ix ix_list (pv 0) pe_int (fun _ _ => rfl)) pa_nil)) (by rfl))
      (pss_cons (ps_asg (pe_op op_add (pv 1) pe_int) (pg_sub (pv 0) pe_int set_list))
      (pss_cut (ps_set (i := 3) sc_fresh.nd rfl (Or.inl rfl) (pe_ifExp (pt_cmpR (op_neD hr.units) (pv 2) (pe_lst pa_nil) (nomark _)) (pe_ix ix_list (pv 2) (pe_op op_mod (pe_callTy call_int1 (by rfl) B.int (by decide +kernel) (pa_cons (pv 1) pa_nil)) (pe_callB call_len_seq (by rfl) B.len PySem.boot_len (pa_cons (pv 2) pa_nil))) (fun _ _ => rfl)) pe_int))
      (pss_cut (ps_if (PW.pt (pw_and (pt_cmpR op_lt (pv 1) (pe_callB call_len_seq (by rfl) B.len PySem.boot_len (pa_cons (pv 2) pa_nil)) (nomark _)) (pw_and1 (pt_cmpR op_ge (pv 3) (pe_op op_pow pe_int pe_int) (nomark _))))) (pss_one (ps_ret (pe_op op_sub (pv 3) (pe_op op_pow pe_int pe_int)))) pss_nil)
      (pss_cons (ps_set (i := 4) sc_fresh.nd rfl (Or.inl rfl) pe_int)
      (pss_cons (ps_set (i := 5) sc_fresh.nd rfl (Or.inl rfl) (pe_op op_mod (pe_callTy call_int1 (by rfl) B.int (by decide +kernel) (pa_cons (pe_op op_add (pe_op op_add (pe_op op_mul (pv 3) pe_int) (pe_op op_mul pe_int (pv 1))) pe_int) pa_nil)) (pv 4)))
      (pss_cons (ps_set (i := 6) sc_fresh.nd rfl (Or.inl rfl) (pv 5))
      (pss_cons (ps_for PassesOwn.never rfl (pi_range1 rfl B.range (pa_cons pe_int pa_nil)) (pg_name (i := 7) sc_fresh.nd rfl (Or.inl rfl))
        (pss_cons (ps_set (i := 5) sc_fresh.nd rfl (Or.inl rfl) (pe_op op_mod (pe_callTy call_int1 (by rfl) B.int (by decide +kernel) (pa_cons (pe_op op_add (pe_op op_add (pe_op op_mul (pv 5) (pv 5)) (pe_op op_mul (pe_op op_mul pe_int (pe_op op_add (pv 7) pe_int)) (pe_op op_add (pv 1) pe_int))) (pv 3)) pa_nil)) (pv 4)))
        (pss_one (ps_set (i := 6) sc_fresh.nd rfl (Or.inl rfl) (pe_op op_add (pe_op op_mul (pv 6) (pv 4)) (pv 5))))))
      (pss_one (ps_ret (pv 6)))))))))), ?_⟩
    refine ⟨_, rfl, p, _, _, _, rfl, rfl, SqL.of hp, atI_nat (j := 1) rfl, _, rfl, p, _, _, _, rfl, rfl, SqL.of hp, atI_nat (j := 0) rfl, _, _, rfl, ?_⟩
    refine ⟨_, rfl, _, _, rfl, rfl, _, rfl, p, _, _, 1, rfl, rfl, hp, rfl, ?_⟩
    have hp1 : upd H p (.lst [.ref c, .int (i + 1), .int j]) p = some (.lst [.ref c, .int (i + 1), .int j]) := upd_same
    have hc1 : upd H p (.lst [.ref c, .int (i + 1), .int j]) c = some (.lst (ns.map V.int)) := by
      rw [upd_ne hpc.symm]
      exact hc
    have k1 : Kp p c H (upd H p (.lst [.ref c, .int (i + 1), .int j])) := ⟨fun b o n e => by rw [upd_ne n]; exact e, ns, i + 1, j, hp1, hc1⟩
    -- behind the third statement the cell is some number; a new empty list stands
    refine ⟨fun σ H' => (∃ z : Int, σ = [some (.ref p), some (.int i), some (.ref c), some (.int z), none, none, none, none]) ∧ Kp p c H H' ∧ H' c = some (.lst (ns.map V.int)), ?_, ?_⟩
    · refine ⟨_, rfl, Nat.zero_le _, fun q hq => ?_⟩
      have k2 : Kp p c H (upd (upd H p (.lst [.ref c, .int (i + 1), .int j])) q (.lst [])) := k1.new hq
      have hc2 : upd (upd H p (.lst [.ref c, .int (i + 1), .int j])) q (.lst []) c = some (.lst (ns.map V.int)) := by
        rw [upd_ne (ne_of_none hc1 hq)]
        exact hc1
      refine ⟨.list (ns.map PyData.int), .list [], .lst (SqL.of hc2) (dp_ints ns), .lst (SqL.of upd_same) .nil, shaped_ints ns, by decide, _, rfl, ?_⟩
      rw [ints_ne_nil]
      cases ns with
      | nil =>
        refine iteF ?_
        exact ⟨⟨0, rfl⟩, k2, hc2⟩
      | cons n r =>
        refine iteT ?_
        have hm : (0 : Int) ≤ i % (((n :: r).map V.int).length : Nat) ∧ i % (((n :: r).map V.int).length : Nat) < (((n :: r).map V.int).length : Nat) := by
          have h0 : (0 : Int) < (((n :: r).map V.int).length : Nat) := by
            rw [List.length_map, List.length_cons]
            omega
          exact ⟨Int.emod_nonneg _ (by omega), Int.emod_lt_of_pos _ h0⟩
        obtain ⟨u, hu⟩ : ∃ u : Nat, i % (((n :: r).map V.int).length : Nat) = (u : Int) := ⟨_, (Int.toNat_of_nonneg hm.1).symm⟩
        have hlt : u < (n :: r).length := by
          have q := hm.2
          rw [hu, List.length_map] at q
          omega
        refine ⟨_, rfl, _, rfl, .inl ⟨_, rfl, _, rfl, c, _, rfl, .inl (SqL.of hc2), _, _, rfl, rfl, ?_, c, _, _, .int ((n :: r)[u]), rfl, rfl, SqL.of hc2, ?_, ⟨_, rfl⟩, k2, hc2⟩⟩
        · rw [List.length_map, List.length_cons]
          omega
        · rw [hu]
          exact atI_nat (by rw [List.getElem?_map, List.getElem?_eq_getElem hlt]; rfl)
    · rintro σ H2 ⟨⟨z, rfl⟩, k2, hc2⟩
      refine ⟨fun σ H' => σ = [some (.ref p), some (.int i), some (.ref c), some (.int z), none, none, none, none] ∧ H' = H2, ?_, ?_⟩
      · refine ⟨_, rfl, _, rfl, c, _, rfl, .inl (SqL.of hc2), _, _, rfl, rfl, _, rfl, ?_⟩
        refine ite2 (fun _ => ?_) (fun _ => ?_)
        · refine ⟨_, rfl, _, _, rfl, rfl, ⟨by decide, by decide, by decide⟩, _, _, rfl, rfl, _, rfl, ?_⟩
          refine ite2 (fun _ => ?_) (fun _ => ?_)
          · exact ⟨_, rfl, _, _, rfl, rfl, ⟨by decide, by decide, by decide⟩, _, _, rfl, rfl, k _ _ k2⟩
          · exact ⟨rfl, rfl⟩
        · exact iteF ⟨rfl, rfl⟩
      · rintro σ H3 ⟨rfl, rfl⟩
        refine ⟨_, rfl, _, _, rfl, rfl, .inr ⟨by decide, by decide⟩, _, rfl, _, _, rfl, rfl, .inl ⟨by decide, by decide⟩, _, _, rfl, rfl, _, _, rfl, rfl, .inl ⟨_, rfl, ?_⟩⟩
        refine ⟨_, rfl, _, _, rfl, rfl, (by show (0 : Int) < 2305843009213693951; decide), ?_⟩
        refine ⟨_, rfl, ?_⟩
        refine ⟨6, rfl, by decide, by decide, for_range (n := 6) (fun _ σ H' => H' = H3 ∧ ∃ (st fo : Int) (v : Option V), 0 ≤ st ∧ st < 2305843009213693951 ∧ σ = [some (.ref p), some (.int i), some (.ref c), some (.int z), some (.int 2305843009213693951), some (.int st), some (.int fo), v]) ⟨rfl, _, _, _, Int.emod_nonneg _ (by decide), Int.emod_lt_of_pos _ (by decide), rfl⟩ ?_ ?_⟩
        · rintro i' σ H4 hi ⟨rfl, st, fo, v, h0, h1, rfl⟩
          refine ⟨_, rfl, _, rfl, _, _, rfl, rfl, .inl ⟨by omega, by omega⟩, _, rfl, _, _, rfl, rfl, _, _, rfl, rfl, .inl ⟨by decide, by decide⟩, _, rfl, _, _, rfl, rfl, _, _, rfl, rfl, .inl ⟨by omega, by omega⟩, _, _, rfl, rfl, _, rfl, _, _, rfl, rfl, .inl ⟨_, rfl, ?_⟩⟩
          refine ⟨_, rfl, _, _, rfl, rfl, (by show (0 : Int) < 2305843009213693951; decide), ?_⟩
          refine ⟨_, rfl, _, rfl, _, _, rfl, rfl, .inr prime_ok, _, rfl, _, _, rfl, rfl, ?_⟩
          exact ⟨rfl, _, _, _, Int.emod_nonneg _ (by decide), Int.emod_lt_of_pos _ (by decide), rfl⟩
        · rintro σ H4 ⟨rfl, st, fo, v, h0, h1, rfl⟩
          exact ⟨_, rfl, k _ _ k2⟩
theorem cal_draw (F : C8.Def K mg "_law_draw" st_law_draw f fd) (b : Binds K fd ["pen", "bound"] []) (B : BN mg) (Cf : Cal P w K mg base 1 "_law_fresh" spFresh []) : Cal P w K mg base 2 "_law_draw" spDraw [] := by
  refine cal0 F b .nil sc_draw (fun vs H Q E h => ?_) (fun cdv A outer s H vs Q E hr h => ?_)
  · obtain ⟨p, c, n, rfl, _⟩ := h
    rfl
  · obtain ⟨p, c, n, rfl, hP, h0, h9, k⟩ := h
    refine ⟨_, pss_cut (ps_if (pt_cmpR op_lt (pe_ix ix_list (pv 0) pe_int (fun _ _ => rfl)) (pv 1) (nomark _)) (pss_one (ps_asg (pe_c Cf hr (by decide) (by rfl) (pa_cons (pv 0) pa_nil)) (pg_sub (pv 0) pe_int set_list))) pss_nil)
      (pss_cons (ps_set (i := 2) sc_draw.nd rfl (Or.inl rfl) (pe_op op_mod (pe_callTy call_int1 (by rfl) B.int (by decide +kernel) (pa_cons (pe_ix ix_list (pv 0) pe_int (fun _ _ => rfl)) pa_nil)) (pv 1)))
      (pss_cons (ps_asg (pe_op op_fdivW (pe_callTy call_int1 (by rfl) B.int (by decide +kernel) (pa_cons (pe_ix ix_list (pv 0) pe_int (fun _ _ => rfl)) pa_nil)) (pv 1)) (pg_sub (pv 0) pe_int set_list))
      (pss_one (ps_ret (pv 2))))), ?_⟩
    refine ⟨fun σ H' => σ = [some (.ref p), some (.int n), none] ∧ Kp p c H H', ?_, ?_⟩
    · obtain ⟨ns, i, j, hp, hc⟩ := id hP
      refine ⟨_, rfl, p, _, _, _, rfl, rfl, SqL.of hp, atI_nat (j := 2) rfl, _, rfl, _, _, rfl, rfl, _, rfl, ?_⟩
      refine ite2 (fun _ => ?_) (fun _ => ?_)
      · refine ⟨_, rfl, p, c, rfl, hP, fun z H1 k1 => ?_⟩
        obtain ⟨ns1, i1, j1, hp1, hc1⟩ := k1.pen
        refine ⟨_, rfl, p, _, _, 2, rfl, rfl, hp1, rfl, rfl, k1.trans ⟨fun b o n e => by rw [upd_ne n]; exact e, ns1, i1, z, upd_same, ?_⟩⟩
        rw [upd_ne (pen_ne hp1 hc1).symm]
        exact hc1
      · exact ⟨rfl, Kp.rfl' hP⟩
    · rintro σ H1 ⟨rfl, k1⟩
      obtain ⟨ns, i, j, hp, hc⟩ := k1.pen
      refine ⟨_, rfl, p, _, _, _, rfl, rfl, SqL.of hp, atI_nat (j := 2) rfl, .inl ⟨_, rfl, _, rfl, _, _, rfl, rfl, h0, ?_⟩⟩
      refine ⟨_, rfl, p, _, _, _, rfl, rfl, SqL.of hp, atI_nat (j := 2) rfl, .inl ⟨_, rfl, _, rfl, _, _, rfl, rfl, ⟨h0, h9⟩, _, rfl, p, _, _, 2, rfl, rfl, hp, rfl, ?_⟩⟩
      refine ⟨_, rfl, k _ _ (Int.emod_nonneg _ (by omega)) (Int.emod_lt_of_pos _ h0) (k1.trans ⟨fun b o n e => by rw [upd_ne n]; exact e, ns, i, j / n, upd_same, ?_⟩)⟩
      rw [upd_ne (pen_ne hp hc).symm]
      exact hc
end

/-! ### one of some things; texts, words -/
/-- a part of a list that is not the pen, or a sign of a text -/
def spOne (K : PySem.W.Frag) : Sp := fun vs H Q _ => ∃ p c : Addr, Pen H p c ∧
  ((∃ (a : Addr) (xs : List V), vs = [.ref p, .ref a] ∧ a ≠ p ∧ SqL K H a xs ∧ 0 < xs.length ∧ xs.length < 1000 ∧ ∀ (x : V) H', x ∈ xs → Kp p c H H' → Q x H') ∨
   (∃ z : Str, vs = [.ref p, .str z] ∧ 0 < z.length ∧ z.length < 1000 ∧ ∀ (g : Nat) H', g ∈ z.cps.toList → Kp p c H H' → Q (.str ⟨#[g]⟩) H'))
theorem sc_one : FnScope ["pen", "rows"] ["pen", "rows"] (fnScope st_law_one_of) := fnScope_by (by decide +kernel)
theorem log_small {b : Int} (h0 : 0 < b) (h : b < 1000) : b.natAbs.log2 < 9000 := by
  have h1 : b.natAbs ≠ 0 := by omega
  rw [Nat.log2_lt h1]
  exact Nat.lt_of_lt_of_le (show b.natAbs < 2 ^ 10 by omega) (Nat.pow_le_pow_right (by decide) (by decide))

/-- a text of small letters, not longer than n -/
structure Tx (n : Nat) (z : Str) : Prop where
  len : z.length ≤ n
  low : ∀ c ∈ z.cps.toList, 97 ≤ c ∧ c ≤ 122
def spPiece : Sp := fun vs H Q _ => ∃ (p c : Addr) (m : Nat), vs = [.ref p, .int m] ∧ Pen H p c ∧ 0 < m ∧ m < 900 ∧
  ∀ (z : Str) H', 0 < z.length → Tx m z → Kp p c H H' → Q (.str z) H'
def abc : List Str := ["ab", "ab", "a", "abc", "abcdefghijklmnopqrstuvwxyz"]
theorem abc_low : ∀ z ∈ abc, 0 < z.length ∧ z.length < 1000 ∧ ∀ c ∈ z.cps.toList, 97 ≤ c ∧ c ≤ 122 := by decide +kernel
/-- texts joined: their signs one behind the other -/
theorem join_nil : ∀ l : List (List Nat), TL.joinL [] l = l.flatten
  | [] => rfl
  | [x] => by
    show x = [x].flatten
    rw [List.flatten_cons, List.flatten_nil, List.append_nil]
  | x :: z :: r => by
    show x ++ ([] ++ TL.joinL [] (z :: r)) = (x :: z :: r).flatten
    rw [List.nil_append, join_nil (z :: r), List.flatten_cons (l := x)]
theorem join_cps (ys : List Str) : (Txt.join "" ys).cps.toList = (ys.map fun y => y.cps.toList).flatten := by
  have e : TL.tl (Txt.join "" ys) = TL.joinL (TL.tl "") (ys.map TL.tl) := (congrArg TL.tl (TL.join_eq "" ys)).trans (TL.tl_join "" ys)
  exact e.trans (join_nil _)
theorem join_len (ys : List Str) : (Txt.join "" ys).length = (ys.map (·.length)).sum := by
  have e : (Txt.join "" ys).length = (Txt.join "" ys).cps.toList.length := (Array.length_toList).symm
  rw [e, join_cps, List.length_flatten, List.map_map]
  exact congrArg List.sum (List.map_congr_left fun y _ => Array.length_toList)
theorem lens_one : ∀ ys : List Str, (∀ y ∈ ys, y.length = 1) → (ys.map (·.length)).sum = ys.length
  | [], _ => rfl
  | y :: r, h => by
    rw [List.map_cons, List.sum_cons, h y List.mem_cons_self, lens_one r fun z hz => h z (List.mem_cons_of_mem _ hz), List.length_cons]
    omega
section
variable {P : Program} {w : World} {K : PySem.W.Frag} {mg : Str → Option Value} {base : Heap} {f : Addr} {fd : FuncData}
theorem cal_one (F : C8.Def K mg "_law_one_of" st_law_one_of f fd) (b : Binds K fd ["pen", "rows"] []) (B : BN mg) (Cd : Cal P w K mg base 2 "_law_draw" spDraw []) : Cal P w K mg base 3 "_law_one_of" (spOne K) [] := by
  refine cal0 F b .nil sc_one (fun vs H Q E h => ?_) (fun cdv A outer s H vs Q E hr h => ?_)
  · obtain ⟨p, c, _, h⟩ := h
    rcases h with ⟨a, xs, rfl, _⟩ | ⟨z, rfl, _⟩ <;> rfl
  · obtain ⟨p, c, hP, h⟩ := h
    refine ⟨_, pss_one (ps_ret (pe_ix (IxR.or ix_list ix_str) (pv 1) (pe_c Cd hr (by decide) (by rfl) (pa_cons (pv 0) (pa_cons (pe_callB (CallR.or call_len_seq call_len_str) (by rfl) B.len PySem.boot_len (pa_cons (pv 1) pa_nil)) pa_nil))) (fun _ _ => rfl))), ?_⟩
    rcases h with ⟨a, xs, rfl, na, hS, h0, h1, k⟩ | ⟨z, rfl, h0, h1, k⟩
    · refine ⟨_, rfl, _, rfl, _, rfl, .inl ⟨a, xs, rfl, .inl hS, p, c, _, rfl, hP, by omega, log_small (by omega) (by omega), fun d H1 d0 d1 k1 => ?_⟩⟩
      obtain ⟨u, rfl⟩ : ∃ u : Nat, d = (u : Int) := ⟨_, (Int.toNat_of_nonneg d0).symm⟩
      have hlt : u < xs.length := by omega
      exact .inl ⟨a, xs, _, xs[u], rfl, rfl, k1.seqL na hS, atI_nat (List.getElem?_eq_getElem hlt), k _ _ (List.getElem_mem hlt) k1⟩
    · refine ⟨_, rfl, _, rfl, _, rfl, .inr ⟨z, rfl, Nat.le_of_lt (Nat.lt_of_lt_of_le h1 (by decide)), p, c, _, rfl, hP, by omega, log_small (by omega) (by omega), fun d H1 d0 d1 k1 => ?_⟩⟩
      obtain ⟨u, rfl⟩ : ∃ u : Nat, d = (u : Int) := ⟨_, (Int.toNat_of_nonneg d0).symm⟩
      have hlt : u < z.cps.toList.length := by
        rw [Array.length_toList]
        have e : z.length = z.cps.size := rfl
        omega
      exact .inr ⟨z, _, z.cps.toList[u], rfl, rfl, Nat.le_of_lt (Nat.lt_of_lt_of_le h1 (by decide)), atI_nat (List.getElem?_eq_getElem hlt), k _ _ (List.getElem_mem hlt) k1⟩
end

/-! ### a drawn text -/
theorem sc_piece : FnScope ["pen", "most", "letters", "lap"] ["pen", "most"] (fnScope st_law_piece) := fnScope_by (by decide +kernel)
section
variable {P : Program} {w : World} {K : PySem.W.Frag} {mg : Str → Option Value} {base : Heap} {f : Addr} {fd : FuncData}
theorem cal_piece (F : C8.Def K mg "_law_piece" st_law_piece f fd) (b : Binds K fd ["pen", "most"] []) (B : BN mg) (Cd : Cal P w K mg base 2 "_law_draw" spDraw []) (Co : Cal P w K mg base 3 "_law_one_of" (spOne K) []) : Cal P w K mg base 4 "_law_piece" spPiece [] := by
  refine cal0 F b .nil sc_piece (fun vs H Q E h => ?_) (fun cdv A outer s H vs Q E hr h => ?_)
  · obtain ⟨p, c, m, rfl, _⟩ := h
    rfl
  · obtain ⟨p, c, m, rfl, hP, m0, m9, k⟩ := h
    refine ⟨_, pss_cons (ps_set (i := 2) sc_piece.nd rfl (Or.inr rfl) (pe_c Co hr (by decide) (by rfl) (pa_cons (pv 0) (pa_cons (pe_lst (pa_cons pe_str (pa_cons pe_str (pa_cons pe_str (pa_cons pe_str (pa_cons pe_str pa_nil)))))) pa_nil))))
      (pss_one (ps_ret (pe_join pe_str (pe_lc (own := [("lap", 3)]) (g := gName 3) (tt := tYes) (by rfl) sc_piece.nd (pi_range1 rfl B.range (pa_cons (pe_op op_add pe_int (pe_c Cd hr (by decide) (by rfl) (pa_cons (pv 0) (pa_cons (pv 1) pa_nil)))) pa_nil))
        (blkOk_by (own := [("lap", 3)]) (N := ["pen", "most", "letters", "lap"]) (sc := fnScope st_law_piece) (by decide +kernel)) (fun _ _ _ _ _ => pg_name (i := 3) sc_piece.nd rfl (Or.inl rfl)) (fun _ _ _ _ _ => pts_nil)
        (fun _ _ _ _ _ => pe_c Co hr (by decide) (by rfl) (pa_cons (pv 0) (pa_cons (pv 2) pa_nil))))))), ?_⟩
    refine ⟨_, rfl, (by show 5 ≤ sizeLine; decide), fun a ha => ⟨p, c, hP.new ha, .inl ⟨a, _, rfl, hP.ne ha, SqL.of upd_same, by decide, by decide, fun x H1 hx k1 => ?_⟩⟩⟩
    obtain ⟨z, hz, rfl⟩ : ∃ z ∈ abc, x = V.str z := by
      have hx' : x ∈ abc.map V.str := hx
      obtain ⟨z, h1, h2⟩ := List.mem_map.mp hx'
      exact ⟨z, h1, h2.symm⟩
    obtain ⟨z0, z1, z2⟩ := abc_low z hz
    have kA : Kp p c H H1 := (Kp.new (Kp.rfl' hP) ha).trans k1
    refine ⟨⟨_, rfl⟩, ?_⟩
    refine ⟨_, rfl, _, rfl, p, c, m, rfl, kA.pen, by omega, log_small (by omega) (by omega), fun d H2 d0 d1 k2 => ?_⟩
    have kB : Kp p c H H2 := kA.trans k2
    refine ⟨_, _, rfl, rfl, 1 + d, rfl, by omega, by omega, fun D hD => ?_⟩
    refine lc_range (lo := 0) (n := (1 + d).toNat) (fun i H' => Kp p c H H' ∧ ∃ ys : List Str, H' D = some (.lst (ys.map V.str)) ∧ H D = none ∧ ys.length = i ∧ ∀ y ∈ ys, y.length = 1 ∧ ∀ c ∈ y.cps.toList, 97 ≤ c ∧ c ≤ 122)
      ⟨kB.new hD, [], upd_same, kB.free hD, rfl, fun y hy => by cases hy⟩ ?_ ?_
    · rintro i H3 hi ⟨k3, ys, hL, hD0, hl, hy⟩
      refine ⟨rfl, ?_⟩
      refine ⟨_, rfl, _, rfl, p, c, k3.pen, .inr ⟨z, rfl, z0, z1, fun g H4 hg k4 => ?_⟩⟩
      have nD : D ≠ p := hP.ne hD0
      have hL4 : H4 D = some (.lst (ys.map V.str)) := k4.but _ _ nD hL
      refine ⟨_, hL4, ?_, ?_⟩
      · rw [List.length_map]
        exact Nat.lt_of_lt_of_le (show ys.length < 1000 by omega) (by decide)
      · refine ⟨(k3.trans k4).put hP hD0, ys ++ [⟨#[g]⟩], ?_, hD0, ?_, ?_⟩
        · rw [upd_same, List.map_append]
          rfl
        · rw [List.length_append, hl]
          rfl
        · intro y hm
          rcases List.mem_append.mp hm with hm | hm
          · exact hy y hm
          · obtain rfl := List.mem_singleton.mp hm
            exact ⟨rfl, fun c' hc' => by
              obtain rfl : c' = g := by simpa using hc'
              exact z2 _ hg⟩
    · rintro H3 ⟨k3, ys, hL, hD0, hl, hy⟩
      refine ⟨_, D, ys, rfl, rfl, .inl (SqL.of hL), ?_, ?_⟩
      · rw [lens_one ys fun y hy' => (hy y hy').1]
        have e0 : (("" : Str)).length = 0 := by decide
        rw [e0]
        omega
      · refine k _ _ ?_ ⟨?_, ?_⟩ k3
        · rw [join_len, lens_one ys fun y hy' => (hy y hy').1]
          omega
        · rw [join_len, lens_one ys fun y hy' => (hy y hy').1]
          omega
        · intro c' hc'
          rw [join_cps] at hc'
          obtain ⟨l, h1, h2⟩ := List.mem_flatten.mp hc'
          obtain ⟨y, h3, rfl⟩ := List.mem_map.mp h1
          exact (hy y h3).2 _ h2
end

/-! ### recipes: parts, their buffers, their letters -/
inductive Pt where
  | s (z : Str)
  | b (i : Nat)
abbrev Rc := List Pt
def Pt.v : Pt → V
  | .s z => .str z
  | .b i => .int i
def Pt.d : Pt → PyData
  | .s z => .str z
  | .b i => .int i
def Pt.buf : Pt → List Nat
  | .s _ => []
  | .b i => [i]
def Pt.let : Pt → Nat
  | .s z => z.length
  | .b _ => 0
def Pt.low : Pt → Prop
  | .s z => ∀ c ∈ z.cps.toList, 97 ≤ c ∧ c ≤ 122
  | .b _ => True
def bufs (r : Rc) : List Nat := r.flatMap Pt.buf
def lets (r : Rc) : Nat := (r.map Pt.let).sum
def lowR (r : Rc) : Prop := ∀ q ∈ r, q.low
theorem bufs_app (a b : Rc) : bufs (a ++ b) = bufs a ++ bufs b := List.flatMap_append
theorem lets_app (a b : Rc) : lets (a ++ b) = lets a + lets b := by
  unfold lets
  rw [List.map_append, List.sum_append]
theorem lets_one (q : Pt) : lets [q] = q.let := by
  unfold lets
  rw [List.map_cons, List.map_nil, List.sum_cons, List.sum_nil, Nat.add_zero]
theorem bufs_one (q : Pt) : bufs [q] = q.buf := by
  unfold bufs
  rw [List.flatMap_cons, List.flatMap_nil, List.append_nil]
theorem lowR_app {a b : Rc} (h : lowR a) (h2 : lowR b) : lowR (a ++ b) := fun q hq => (List.mem_append.mp hq).elim (h q) (h2 q)
theorem lowR_one {q : Pt} (h : q.low) : lowR [q] := fun x hx => by
  obtain rfl := List.mem_singleton.mp hx
  exact h
theorem low_strOk {z : Str} (h : ∀ c ∈ z.cps.toList, 97 ≤ c ∧ c ≤ 122) : PyData.strOk z = true := by
  unfold PyData.strOk
  rw [← Array.all_toList, List.all_eq_true]
  intro c hc
  have q := (h c hc).2
  exact decide_eq_true (by omega)
theorem low_cat {x y : Str} (h : ∀ c ∈ x.cps.toList, 97 ≤ c ∧ c ≤ 122) (h2 : ∀ c ∈ y.cps.toList, 97 ≤ c ∧ c ≤ 122) : ∀ c ∈ (x ++ y).cps.toList, 97 ≤ c ∧ c ≤ 122 := by
  intro c hc
  rw [Str.cps_append, Array.toList_append] at hc
  exact (List.mem_append.mp hc).elim (h c) (h2 c)
theorem len_cat (x y : Str) : (x ++ y).length = x.length + y.length := by
  show (x ++ y).cps.size = x.cps.size + y.cps.size
  rw [Str.cps_append, Array.size_append]

/-- the parts put together: pieces side by side become one -/
def nstep (f : Rc) : Pt → Rc
  | .b i => f ++ [.b i]
  | .s z => match f.getLast? with
    | some (.s y) => f.dropLast ++ [.s (y ++ z)]
    | _ => if z = "" then f else f ++ [.s z]
def normal (ps : Rc) : Rc := ps.foldl nstep []
theorem nstep_glue (g : Rc) (y z : Str) : nstep (g ++ [.s y]) (.s z) = g ++ [.s (y ++ z)] := by
  unfold nstep
  rw [List.getLast?_concat, List.dropLast_concat]
theorem nstep_behind (g : Rc) (i : Nat) (z : Str) : nstep (g ++ [.b i]) (.s z) = if z = "" then g ++ [.b i] else g ++ [.b i] ++ [.s z] := by
  unfold nstep
  rw [List.getLast?_concat]
theorem nstep_first (z : Str) : nstep [] (.s z) = if z = "" then [] else [.s z] := rfl
theorem len_empty {z : Str} (h : z = "") : z.length = 0 := by
  subst h
  decide
structure NOk (f : Rc) (q : Pt) (g : Rc) : Prop where
  buf : bufs g = bufs f ++ q.buf
  lt : lets g = lets f + q.let
  len : g.length ≤ f.length + 1
  low : lowR f → q.low → lowR g
theorem nok_push (f : Rc) (q : Pt) : NOk f q (f ++ [q]) :=
  ⟨by rw [bufs_app, bufs_one], by rw [lets_app, lets_one], by rw [List.length_append, List.length_singleton]; exact Nat.le_refl _, fun h1 h2 => lowR_app h1 (lowR_one h2)⟩
theorem nok_same (f : Rc) {z : Str} (h : z = "") : NOk f (.s z) f :=
  ⟨(List.append_nil _).symm, by show lets f = lets f + z.length; rw [len_empty h, Nat.add_zero], Nat.le_succ _, fun h1 _ => h1⟩
theorem nok_glue (g : Rc) (y z : Str) : NOk (g ++ [.s y]) (.s z) (g ++ [.s (y ++ z)]) := by
  refine ⟨?_, ?_, ?_, fun h1 h2 => ?_⟩
  · rw [bufs_app, bufs_app, bufs_one, bufs_one]
    show bufs g ++ [] = bufs g ++ [] ++ []
    rw [List.append_nil, List.append_nil]
  · rw [lets_app, lets_app, lets_one, lets_one]
    show lets g + (y ++ z).length = lets g + y.length + z.length
    rw [len_cat, Nat.add_assoc]
  · rw [List.length_append, List.length_append]
    exact Nat.le_succ _
  · refine lowR_app (fun q hq => h1 q (List.mem_append_left _ hq)) (lowR_one ?_)
    exact low_cat (h1 (.s y) (List.mem_append_right _ (List.mem_singleton.mpr rfl))) h2
theorem nstep_ok (f : Rc) (q : Pt) : NOk f q (nstep f q) := by
  cases q with
  | b i => exact nok_push f _
  | s z =>
    rcases List.eq_nil_or_concat f with rfl | ⟨g, l, rfl⟩
    · rw [nstep_first]
      by_cases h : z = ""
      · rw [if_pos h]
        exact nok_same [] h
      · rw [if_neg h]
        exact nok_push [] _
    · rw [List.concat_eq_append]
      cases l with
      | s y =>
        rw [nstep_glue]
        exact nok_glue g y z
      | b i =>
        rw [nstep_behind]
        by_cases h : z = ""
        · rw [if_pos h]
          exact nok_same _ h
        · rw [if_neg h]
          exact nok_push _ _
theorem normal_ok : ∀ (ps f : Rc), bufs (ps.foldl nstep f) = bufs f ++ bufs ps ∧ lets (ps.foldl nstep f) = lets f + lets ps ∧ (ps.foldl nstep f).length ≤ f.length + ps.length ∧ (lowR f → lowR ps → lowR (ps.foldl nstep f))
  | [], f => ⟨(List.append_nil _).symm, rfl, Nat.le_refl _, fun h _ => h⟩
  | q :: r, f => by
    have a := nstep_ok f q
    obtain ⟨h1, h2, h3, h4⟩ := normal_ok r (nstep f q)
    rw [List.foldl_cons]
    refine ⟨?_, ?_, ?_, fun l1 l2 => ?_⟩
    · rw [h1, a.buf, List.append_assoc]
      exact congrArg _ (List.flatMap_cons).symm
    · rw [h2, a.lt, Nat.add_assoc]
      rfl
    · rw [List.length_cons]
      have := a.len
      omega
    · exact h4 (a.low l1 (l2 q List.mem_cons_self)) fun x hx => l2 x (List.mem_cons_of_mem _ hx)
theorem foldl_more {α β : Type} (g : β → α → β) (b : β) {l : List α} {i : Nat} {x : α} (h : l[i]? = some x) : (l.take (i + 1)).foldl g b = g ((l.take i).foldl g b) x := by
  have e : l.take (i + 1) = l.take i ++ [x] := by
    rw [List.take_add_one, h]
    rfl
  rw [e, List.foldl_append]
  rfl
theorem dp_parts {K : PySem.W.Frag} {H : Hp} : ∀ r : Rc, DpAll K H (r.map Pt.v) (r.map Pt.d)
  | [] => .nil
  | .s z :: r => .cons (.str z) (dp_parts r)
  | .b i :: r => .cons (.int i) (dp_parts r)
theorem parts_flat : ∀ r : Rc, lowR r → PyData.canLayAll0 (r.map Pt.d) = true ∧ PyData.depthAll (r.map Pt.d) = 0
  | [], _ => ⟨by simp only [List.map_nil, PyData.canLayAll0], by simp only [List.map_nil, PyData.depthAll]⟩
  | .s z :: r, h => by
    obtain ⟨h1, h2⟩ := parts_flat r fun q hq => h q (List.mem_cons_of_mem _ hq)
    have h3 : PyData.strOk z = true := low_strOk (h (.s z) List.mem_cons_self)
    exact ⟨by simp only [List.map_cons, Pt.d, PyData.canLayAll0, PyData.canLay0, h1, h3, Bool.and_self], by simp only [List.map_cons, Pt.d, PyData.depthAll, PyData.depth, h2, Nat.max_self]⟩
  | .b i :: r, h => by
    obtain ⟨h1, h2⟩ := parts_flat r fun q hq => h q (List.mem_cons_of_mem _ hq)
    exact ⟨by simp only [List.map_cons, Pt.d, PyData.canLayAll0, PyData.canLay0, h1, Bool.and_self], by simp only [List.map_cons, Pt.d, PyData.depthAll, PyData.depth, h2, Nat.max_self]⟩
theorem shaped_parts (r : Rc) (h : lowR r) : SeqAt.shaped (.list (r.map Pt.d)) = true := by
  obtain ⟨h1, h2⟩ := parts_flat r h
  unfold SeqAt.shaped
  simp only [PyData.canLay0, PyData.depth, h1, h2, Bool.true_and]
  decide
theorem list_ne_nil (ds : List PyData) : (!PyData.eqv (.list ds) (.list [])) = !ds.isEmpty := by
  cases ds with
  | nil => simp only [PyData.eqv, PyData.eqvAll, List.isEmpty_nil]
  | cons a r => simp only [PyData.eqv, PyData.eqvAll, List.isEmpty_cons]

/-- more built-in names -/
structure BN2 (mg : Str → Option Value) : Prop extends BN mg where
  tuple : mg "tuple" = none
  isi : mg "isinstance" = none
  str : mg "str" = none

def spNormal (K : PySem.W.Frag) : Sp := fun vs H Q _ => ∃ (a : Addr) (ps : Rc), vs = [.ref a] ∧ SqL K H a (ps.map Pt.v) ∧ ps.length ≤ 1000 ∧ lets ps ≤ 100000 ∧ lowR ps ∧
  ∀ t H', Same H H' → H t = none → H' t = some (.tup ((normal ps).map Pt.v)) → Q (.ref t) H'
/-- isinstance(part, str) -/
theorem isi_pt {K : PySem.W.Frag} {H : Hp} (q : Pt) : ∃ (t : Value) (b : Bool), TyX K H q.v t ∧ PySem.W.kitOne K t (.type "str") = some b ∧ (b = true → ∃ z, q = .s z) ∧ (b = false → ∃ i, q = .b i) := by
  cases q with
  | s z => exact ⟨_, true, .base (.str z), kit_ty (by decide +kernel), fun _ => ⟨z, rfl⟩, fun h => (by cases h)⟩
  | b i => exact ⟨_, false, .base (.int i), kit_ty (by decide +kernel), fun h => (by cases h), fun _ => ⟨i, rfl⟩⟩

/-! ### tuples over tuples, as data -/
mutual
inductive Tp (H : Hp) : V → PyData → Prop
  | non : Tp H .non .none
  | bl (b : Bool) : Tp H (.bl b) (.bool b)
  | int (i : Int) : Tp H (.int i) (.int i)
  | str (x : Str) : Tp H (.str x) (.str x)
  | tup {a : Addr} {xs : List V} {ds : List PyData} : H a = some (.tup xs) → TpAll H xs ds → Tp H (.ref a) (.tuple ds)
inductive TpAll (H : Hp) : List V → List PyData → Prop
  | nil : TpAll H [] []
  | cons {v : V} {vs : List V} {d : PyData} {ds : List PyData} : Tp H v d → TpAll H vs ds → TpAll H (v :: vs) (d :: ds)
end
/-- all tuples stand -/
def TK (H H' : Hp) : Prop := ∀ b xs, H b = some (.tup xs) → H' b = some (.tup xs)
theorem TK.trans {H H1 H2 : Hp} (a : TK H H1) (b : TK H1 H2) : TK H H2 := fun x o e => b x o (a x o e)
mutual
theorem Tp.mono {H H' : Hp} (k : TK H H') : ∀ {v : V} {d : PyData}, Tp H v d → Tp H' v d
  | _, _, .non => .non
  | _, _, .bl b => .bl b
  | _, _, .int i => .int i
  | _, _, .str x => .str x
  | _, _, .tup h hs => .tup (k _ _ h) (TpAll.mono k hs)
theorem TpAll.mono {H H' : Hp} (k : TK H H') : ∀ {v : List V} {d : List PyData}, TpAll H v d → TpAll H' v d
  | _, _, .nil => .nil
  | _, _, .cons h hs => .cons (Tp.mono k h) (TpAll.mono k hs)
end
mutual
theorem Tp.dp {K : PySem.W.Frag} {H : Hp} : ∀ {v : V} {d : PyData}, Tp H v d → Dp K H v d
  | _, _, .non => .non
  | _, _, .bl b => .bl b
  | _, _, .int i => .int i
  | _, _, .str x => .str x
  | _, _, .tup h hs => .tup (SqT.of h) (TpAll.dp hs)
theorem TpAll.dp {K : PySem.W.Frag} {H : Hp} : ∀ {v : List V} {d : List PyData}, TpAll H v d → DpAll K H v d
  | _, _, .nil => .nil
  | _, _, .cons h hs => .cons (Tp.dp h) (TpAll.dp hs)
end
theorem tp_parts {H : Hp} : ∀ r : Rc, TpAll H (r.map Pt.v) (r.map Pt.d)
  | [] => .nil
  | .s z :: r => .cons (.str z) (tp_parts r)
  | .b i :: r => .cons (.int i) (tp_parts r)
theorem TpAll.map {H : Hp} {α : Type} {g : α → V} {e : α → PyData} : ∀ {l : List α}, (∀ x ∈ l, Tp H (g x) (e x)) → TpAll H (l.map g) (l.map e)
  | [], _ => .nil
  | x :: r, h => .cons (h x List.mem_cons_self) (TpAll.map fun y hy => h y (List.mem_cons_of_mem _ hy))
theorem TpAll.app {H : Hp} {a b : List V} {d e : List PyData} (h : TpAll H a d) (h2 : TpAll H b e) : TpAll H (a ++ b) (d ++ e) := by
  induction a generalizing d with
  | nil =>
    cases h
    exact h2
  | cons v r ih =>
    cases h with
    | cons h1 hr => exact .cons h1 (ih hr)
theorem TpAll.get {H : Hp} : ∀ {vs : List V} {ds : List PyData} {i : Nat} {d : PyData}, TpAll H vs ds → ds[i]? = some d → ∃ v, vs[i]? = some v ∧ Tp H v d
  | _, _, _, _, .nil, h => by simp at h
  | _, _, 0, _, .cons h _, e => by
    simp at e
    subst e
    exact ⟨_, rfl, h⟩
  | _, _, i + 1, _, .cons _ hs, e => by
    have e' : _ := e
    rw [List.getElem?_cons_succ] at e'
    obtain ⟨v, h1, h2⟩ := TpAll.get hs e'
    exact ⟨v, by rw [List.getElem?_cons_succ]; exact h1, h2⟩
theorem TpAll.len {H : Hp} : ∀ {vs : List V} {ds : List PyData}, TpAll H vs ds → vs.length = ds.length
  | _, _, .nil => rfl
  | _, _, .cons _ hs => by rw [List.length_cons, List.length_cons, TpAll.len hs]
theorem Same.tk {H H' : Hp} (s : Same H H') : TK H H' := fun b xs e => s b _ e
theorem Kp.tk {p c : Addr} {H H' : Hp} (k : Kp p c H H') (hP : Pen H p c) : TK H H' := fun b xs e => by
  obtain ⟨ns, i, j, h1, _⟩ := hP
  exact k.but b _ (ne_of e h1 (by intro z; cases z)) e
theorem tk_new {H : Hp} {q : Addr} {o : HO} (hq : H q = none) : TK H (upd H q o) := fun b xs e => by
  rw [upd_ne (ne_of_none e hq)]
  exact e
theorem tk_lst {H : Hp} {q : Addr} {ys : List V} {o : HO} (hq : H q = some (.lst ys)) : TK H (upd H q o) := fun b xs e => by
  rw [upd_ne (ne_of e hq (by intro z; cases z))]
  exact e
theorem same_new {H : Hp} {q : Addr} {o : HO} (hq : H q = none) : Same H (upd H q o) := fun b u e => by
  rw [upd_ne (ne_of_none e hq)]
  exact e
theorem Pen.same {H H' : Hp} {p c : Addr} (h : Pen H p c) (s : Same H H') : Pen H' p c := by
  obtain ⟨ns, i, j, h1, h2⟩ := h
  exact ⟨ns, i, j, s _ _ h1, s _ _ h2⟩
theorem Kp.same {H H1 H2 : Hp} {p c : Addr} (k : Kp p c H H1) (s : Same H1 H2) : Kp p c H H2 := ⟨fun b o n e => s b o (k.but b o n e), k.pen.same s⟩

/-! ### a heap without one list -/
def hide (H : Hp) (l : Addr) : Hp := fun b => if b = l then none else H b
theorem hide_ne {H : Hp} {l b : Addr} (h : b ≠ l) : hide H l b = H b := if_neg h
theorem hide_self {H : Hp} {l : Addr} : hide H l l = none := if_pos rfl
theorem Pen.hide {H : Hp} {p c l : Addr} (h : Pen H p c) (n1 : l ≠ p) (n2 : l ≠ c) : Pen (hide H l) p c := by
  obtain ⟨ns, i, j, h1, h2⟩ := h
  exact ⟨ns, i, j, by rw [hide_ne n1.symm]; exact h1, by rw [hide_ne n2.symm]; exact h2⟩
theorem Kp.hide0 {H : Hp} {p c l : Addr} (h : Pen H p c) : Kp p c (hide H l) H := by
  refine ⟨fun b o n e => ?_, h⟩
  by_cases hb : b = l
  · rw [hb, hide_self] at e
    cases e
  · rw [hide_ne hb] at e
    exact e
theorem Kp.thru {H H1 H2 : Hp} {p c l : Addr} (k1 : Kp p c H H1) (k2 : Kp p c (hide H1 l) H2) (hl : H l = none) : Kp p c H H2 :=
  ⟨fun b o n e => k2.but b o n (by rw [hide_ne (ne_of_none e hl)]; exact k1.but b o n e), k2.pen⟩
theorem Kp.unhide {H H' : Hp} {p c l b : Addr} {o : HO} (k : Kp p c (hide H l) H') (n : b ≠ p) (nl : b ≠ l) (h : H b = some o) : H' b = some o := k.but b o n (by rw [hide_ne nl]; exact h)
theorem Kp.freeH {H H' : Hp} {p c l t : Addr} {o : HO} (k : Kp p c (hide H l) H') (hl : H' l = some o) (ht : H' t = none) : H t = none := by
  have h := k.free ht
  rw [hide_ne (ne_of_none hl ht).symm] at h
  exact h

/-! ### lists of small numbers -/
def iN (ls : List Nat) : List Int := ls.map fun (i : Nat) => (i : Int)
theorem rg_eq (n : Nat) : rgV 0 (n : Int) = (iN (List.range n)).map V.int := by
  unfold rgV iN
  rw [List.map_map]
  have e : ((n : Int) - 0).toNat = n := by omega
  rw [e]
  refine List.map_congr_left fun i _ => ?_
  show V.int (0 + (i : Int)) = V.int (i : Int)
  rw [Int.zero_add]
theorem flat_ints (ns : List Int) : (ns.map V.int).all flatV = true := by
  rw [List.all_eq_true]
  intro x hx
  obtain ⟨z, _, rfl⟩ := List.mem_map.mp hx
  rfl
theorem first_hit {xs : List V} {t : V → Bool} (h : xs.any t = true) : ∃ (j : Nat) (z : V), xs[j]? = some z ∧ t z = true ∧ ∀ (m : Nat) (z' : V), m < j → xs[m]? = some z' → t z' = false := by
  induction xs with
  | nil => cases h
  | cons x r ih =>
    cases hx : t x with
    | true => exact ⟨0, x, rfl, hx, fun m _ hm => absurd hm (Nat.not_lt_zero m)⟩
    | false =>
      rw [List.any_cons, hx, Bool.false_or] at h
      obtain ⟨j, z, h1, h2, h3⟩ := ih h
      refine ⟨j + 1, z, by rw [List.getElem?_cons_succ]; exact h1, h2, fun m z' hm e => ?_⟩
      cases m with
      | zero =>
        obtain rfl : x = z' := Option.some.inj e
        exact hx
      | succ m =>
        rw [List.getElem?_cons_succ] at e
        exact h3 m z' (Nat.lt_of_succ_lt_succ hm) e
theorem erase_map {α β : Type} (g : α → β) : ∀ (l : List α) (k : Nat), (l.map g).eraseIdx k = (l.eraseIdx k).map g
  | [], _ => rfl
  | _ :: _, 0 => rfl
  | x :: r, k + 1 => by
    rw [List.map_cons, List.eraseIdx_cons_succ, List.eraseIdx_cons_succ, List.map_cons, erase_map g r k]

theorem erase_perm {α : Type} : ∀ (l : List α) (k : Nat) (h : k < l.length), (l[k] :: l.eraseIdx k).Perm l
  | x :: r, 0, _ => List.Perm.refl _
  | x :: r, k + 1, h => by
    rw [List.eraseIdx_cons_succ, List.getElem_cons_succ]
    exact (List.Perm.swap x _ _).trans ((erase_perm r k (Nat.lt_of_succ_lt_succ h)).cons x)


/-! ### lists of data that are being made -/
/-- a list of data that is being made -/
def LAt (H : Hp) (R : Addr) (ds : List PyData) : Prop := ∃ vs, H R = some (.lst vs) ∧ TpAll H vs ds
theorem LAt.kp {p c R : Addr} {H1 H2 : Hp} {ds : List PyData} (h : LAt H1 R ds) (n : R ≠ p) (hP : Pen H1 p c) (k : Kp p c H1 H2) : LAt H2 R ds := by
  obtain ⟨vs, h1, h2⟩ := h
  exact ⟨vs, k.but _ _ n h1, h2.mono (k.tk hP)⟩
theorem LAt.same {R : Addr} {H1 H2 : Hp} {ds : List PyData} (h : LAt H1 R ds) (s : Same H1 H2) : LAt H2 R ds := by
  obtain ⟨vs, h1, h2⟩ := h
  exact ⟨vs, s _ _ h1, h2.mono (Same.tk s)⟩
theorem LAt.put {R q : Addr} {H1 : Hp} {ys : List V} {o : HO} {ds : List PyData} (h : LAt H1 R ds) (hq : H1 q = some (.lst ys)) (n : R ≠ q) : LAt (upd H1 q o) R ds := by
  obtain ⟨vs, h1, h2⟩ := h
  exact ⟨vs, by rw [upd_ne n]; exact h1, h2.mono (tk_lst hq)⟩
theorem LAt.push {R : Addr} {H1 : Hp} {vs : List V} {x : V} {d : PyData} {ds : List PyData} (hv : H1 R = some (.lst vs)) (ha : TpAll H1 vs ds) (hx : Tp H1 x d) : LAt (upd H1 R (.lst (vs ++ [x]))) R (ds ++ [d]) :=
  ⟨vs ++ [x], upd_same, (ha.mono (tk_lst hv)).app (.cons (hx.mono (tk_lst hv)) .nil)⟩

/-! ### repr of data -/
theorem str_len (s : String) : (Str.ofString s).length = s.length := ofString_length s
/-- data that may be shown: no deeper than k, its weight at most n -/
structure Neat (k n : Nat) (d : PyData) : Prop where
  lay : d.canLay0 = true
  sh : d.showable = true
  shorts : d.intsShort 13 = true
  dep : d.depth ≤ k
  wt : d.weight ≤ n
structure NeatAll (k n : Nat) (ds : List PyData) : Prop where
  lay : PyData.canLayAll0 ds = true
  sh : PyData.showableAll ds = true
  shorts : PyData.intsShortAll 13 ds = true
  dep : PyData.depthAll ds ≤ k
  wt : PyData.weightAll ds ≤ n
theorem Neat.le {k n k' n' : Nat} {d : PyData} (h : Neat k n d) (hk : k ≤ k') (hn : n ≤ n') : Neat k' n' d := ⟨h.lay, h.sh, h.shorts, Nat.le_trans h.dep hk, Nat.le_trans h.wt hn⟩
theorem NeatAll.le {k n k' n' : Nat} {d : List PyData} (h : NeatAll k n d) (hk : k ≤ k') (hn : n ≤ n') : NeatAll k' n' d := ⟨h.lay, h.sh, h.shorts, Nat.le_trans h.dep hk, Nat.le_trans h.wt hn⟩
theorem neat_none : Neat 0 0 .none := ⟨by simp only [PyData.canLay0], by simp only [PyData.showable], by simp only [PyData.intsShort], by simp only [PyData.depth, Nat.le_refl], by simp only [PyData.weight, Nat.le_refl]⟩
theorem neat_bool (b : Bool) : Neat 0 0 (.bool b) := ⟨by simp only [PyData.canLay0], by simp only [PyData.showable], by simp only [PyData.intsShort], by simp only [PyData.depth, Nat.le_refl], by simp only [PyData.weight, Nat.le_refl]⟩
theorem neat_str {z : Str} (h : PyData.strOk z = true) : Neat 0 z.length (.str z) := ⟨by simp only [PyData.canLay0, h], by simp only [PyData.showable], by simp only [PyData.intsShort], by simp only [PyData.depth, Nat.le_refl], by simp only [PyData.weight]; exact Nat.le_refl _⟩
theorem neat_int {i : Int} (h : i.natAbs < 10 ^ 9) : Neat 0 40 (.int i) := by
  have h2 : i.natAbs.log2 < 30 := by
    by_cases h0 : i.natAbs = 0
    · rw [h0]
      decide
    · rw [Nat.log2_lt h0]
      omega
  refine ⟨by simp only [PyData.canLay0], ?_, ?_, by simp only [PyData.depth, Nat.le_refl], ?_⟩
  · simp only [PyData.showable, decide_eq_true_eq]
    omega
  · simp only [PyData.intsShort, PyData.shown, decide_eq_true_eq]
    have q := int_text_length_le10 (a := i) (k := 12) (by decide) (Nat.lt_trans h (by decide))
    exact decide_eq_true (Nat.le_trans (Nat.le_of_eq (str_len _)) q)
  · simp only [PyData.weight]
    split <;> omega
theorem neatAll_nil {k : Nat} : NeatAll k 0 [] := ⟨by simp only [PyData.canLayAll0], by simp only [PyData.showableAll], by simp only [PyData.intsShortAll], by simp only [PyData.depthAll, Nat.zero_le], by simp only [PyData.weightAll, Nat.le_refl]⟩
theorem NeatAll.cons {k a b : Nat} {d : PyData} {ds : List PyData} (h : Neat k a d) (hs : NeatAll k b ds) : NeatAll k (a + 1 + b) (d :: ds) :=
  ⟨by simp only [PyData.canLayAll0, h.lay, hs.lay, Bool.and_self], by simp only [PyData.showableAll, h.sh, hs.sh, Bool.and_self], by simp only [PyData.intsShortAll, h.shorts, hs.shorts, Bool.and_self],
    by simp only [PyData.depthAll]; exact Nat.max_le.mpr ⟨h.dep, hs.dep⟩, by simp only [PyData.weightAll]; exact Nat.add_le_add (Nat.add_le_add_right h.wt 1) hs.wt⟩
theorem NeatAll.tup {k n : Nat} {ds : List PyData} (h : NeatAll k n ds) : Neat (k + 1) n (.tuple ds) :=
  ⟨by simp only [PyData.canLay0, h.lay], by simp only [PyData.showable, h.sh], by simp only [PyData.intsShort, h.shorts], by simp only [PyData.depth]; exact Nat.succ_le_succ h.dep, by simp only [PyData.weight]; exact h.wt⟩
theorem NeatAll.lst {k n : Nat} {ds : List PyData} (h : NeatAll k n ds) : Neat (k + 1) n (.list ds) :=
  ⟨by simp only [PyData.canLay0, h.lay], by simp only [PyData.showable, h.sh], by simp only [PyData.intsShort, h.shorts], by simp only [PyData.depth]; exact Nat.succ_le_succ h.dep, by simp only [PyData.weight]; exact h.wt⟩
theorem neatAll_map {α : Type} {k a : Nat} {g : α → PyData} : ∀ {l : List α}, (∀ x ∈ l, Neat k a (g x)) → NeatAll k (l.length * (a + 1)) (l.map g)
  | [], _ => by
    rw [List.length_nil, Nat.zero_mul]
    exact neatAll_nil
  | x :: r, h => by
    have q := NeatAll.cons (h x List.mem_cons_self) (neatAll_map (l := r) fun y hy => h y (List.mem_cons_of_mem _ hy))
    rw [List.map_cons, List.length_cons, Nat.succ_mul]
    exact q.le (Nat.le_refl _) (by omega)
theorem Neat.fits {k n : Nat} {d : PyData} (h : Neat k n d) (hk : k ≤ 50) (hn : n ≤ 1000000) : d.shown.length ≤ sizeLine := by
  have e : (2 : Nat) ^ 20 = 1048576 := by decide
  have hl : PyData.layable0 d = true := by
    show (PyData.canLay0 d && decide (PyData.depth d ≤ 64) && decide (PyData.weight d ≤ 2 ^ 20)) = true
    have d1 := h.dep
    have d2 := h.wt
    rw [h.lay, decide_eq_true (show d.depth ≤ 64 by omega), decide_eq_true (show d.weight ≤ 2 ^ 20 by omega)]
    rfl
  exact Nat.le_trans (PyProof.Rows.shown_le13 hl h.shorts) (by decide)

/-- repr(x), x some data -/
def rRepr (K : PySem.W.Frag) : List V → Hp → VK → Prop := fun xs H Q => ∃ (x : V) (d : PyData) (k n : Nat), xs = [x] ∧ Dp K H x d ∧ Neat k n d ∧ k ≤ 50 ∧ n ≤ 1000000 ∧ Q (.str d.shown) H
theorem call_repr {X : Cx} (hg : X.A.guards = some []) (hu : X.A.units + 64 < cLine) : CallR X (.builtin "repr") (rRepr X.K) := by
  intro pins s σ H xs us Q I rel h
  obtain ⟨x, d, k, n, rfl, hd, hn, hk, hw, q⟩ := h
  obtain ⟨u, rfl, ru⟩ := vals1 rel
  obtain ⟨as, rr⟩ := Dp.reads I d x u hd ru
  have fits := hn.fits hk hw
  cases hd with
  | non =>
    cases ru
    exact PySem.P.repr_of_none ⟨.str _, H, I.tok _, ⟨_, rfl⟩, q⟩
  | bl b =>
    cases ru
    exact PySem.P.repr_of_bool ⟨.str _, H, I.tok _, ⟨_, rfl⟩, q⟩
  | int i =>
    obtain ⟨t, rfl⟩ := ru
    exact PySem.P.repr_of_int (by have := hn.sh; simpa only [PyData.showable, decide_eq_true_eq] using this) ⟨.str _, H, I.tok _, ⟨_, rfl⟩, q⟩
  | str z =>
    obtain ⟨t, rfl⟩ := ru
    exact PySem.P.repr_of_str ⟨.str _, H, I.tok _, ⟨_, rfl⟩, q⟩ fits
  | lst _ _ =>
    cases ru
    have dd := hn.dep
    exact repr_of_reads' rr hn.sh (PyData.noDict_hsm (PyData.hasDict_of_canLay _ hn.lay)) hg (by omega) (fun _ _ e => e) (fun h' u tk kk => ⟨.str _, H, I.kept kk, ⟨_, rfl⟩, q⟩) fits
  | tup _ _ =>
    cases ru
    have dd := hn.dep
    exact repr_of_reads' rr hn.sh (PyData.noDict_hsm (PyData.hasDict_of_canLay _ hn.lay)) hg (by omega) (fun _ _ e => e) (fun h' u tk kk => ⟨.str _, H, I.kept kk, ⟨_, rfl⟩, q⟩) fits

/-! ### a def that is called where no container is being shown -/
structure FnG (P : Program) (w : World) (K : PySem.W.Frag) (mg : Str → Option Value) (base : Heap) (k : Nat) (f : Addr) (fd : FuncData) (ps : List Str) (sp : Sp) : Prop where
  many : ∀ vs H Q E, sp vs H Q E → vs.length = ps.length
  goes : ∀ (A : Around) (outer : List Env) (s : Shared) (H : Hp) (args : Args) (us : List Value) (vs : List V) (Q : VK) (E : XK), A.guards = some [] → Room k A → Env0 P w K mg base A outer s H → BindsTo s fd args (ps.zip us) → Vals vs us →
    sp vs H Q E → codeAny (model P w) A (.call (.ref f) args) (CR CX0 outer P w H s Q E) s
section
open PySem.Spec PyProof.Rows
variable {P : Program} {w : World} {K : PySem.W.Frag} {mg : Str → Option Value} {base : Heap}
/-- by its body -/
theorem fnG_by {x qual : Str} {st : Stmt} {f : Addr} {fd : FuncData} {N ps : List Str} {k : Nat} {sp : Sp} (F : C8.Fun K x qual st f fd) (sc : FnScope N ps (fnScope st)) (many : ∀ vs H Q E, sp vs H Q E → vs.length = ps.length)
    (body : ∀ (cdv : Value) (A : Around) (outer : List Env) (s : Shared) (H : Hp) (vs : List V) (Q : VK) (E : XK), A.guards = some [] → Room k (A.deeper (envOfC qual (fnScope st) s.heap.objs.size f cdv)) → sp vs H Q E →
      ∃ t, PSs (cxOf CX0 P w K mg base N qual (fnScope st) f cdv A outer s H E).nox (fnBody st) t ∧ t { nx := fun _ H1 => Q .non H1, rt := Q } (start N vs) H) : FnG P w K mg base (k + 1) f fd ps sp := by
  obtain ⟨oc, od, dV, kV, doc, pm, an, cdv, ct, osl, rfl, atF, code⟩ := F.ex
  constructor
  · exact many
  · intro A outer s H args us vs Q E gu room e0 binds rel asked
    have n := many _ _ _ _ asked
    have kept : ∀ b o, base.get? b = some o → s.heap.get? b = some o := fun b o e => (e0.bs b o e).1
    have inK := e0.mod.kin.keeps kept
    have local' : ∀ y ∈ ps.zip us, (fnScope st).names.lookup y.1 = some .local ∨ ((fnScope st).names.lookup y.1 = some .cell ∧ ((cellsFrom (s.heap.objs.size + 1) (fnScope st).names []).lookup y.1).isSome = true) := by
      rintro ⟨nm, v⟩ mem
      exact (sc.par nm (List.of_mem_zip mem).1).imp id fun c => ⟨c, PySem.W.cellsFrom_some _ _ _ (.inl c)⟩
    refine codeAny_call_function room.depth (inK _ _ atF) rfl sc.co sc.gen rfl (PySem.W.codeRec_of inK code) (binds _ _ _ _ (wpAny_newFunctionEnv_cells sc.kind local' fun env eqE s1 made => ?_))
    cases eqE
    refine ⟨(e0.mod.nolimit.keeps kept).keeps made.toInCall.keep, codeAny_func ?_⟩
    obtain ⟨t, hold, ask⟩ := body cdv A outer s H vs Q E gu (room.deeper _) asked
    refine wpAny_mono (hold.nox.run [] s1 (start N vs) H _ (inv_start sc room.hd e0 n rel made) ask) (fun fl s2 got => ?_) fun _ _ z => z
    cases fl
    case ret u =>
      obtain ⟨v, _, H1, J, rv, q⟩ := got
      exact ⟨v, H1, J.os, J.bare, J.base, J.hok, rv, q⟩
    case next =>
      obtain ⟨_, H1, J, q⟩ := got
      exact ⟨V.non, H1, J.os, J.bare, J.base, J.hok, rfl, q⟩
    case brk =>
      obtain ⟨_, _, _, q⟩ := got
      exact q.elim
    case cont =>
      obtain ⟨_, _, _, q⟩ := got
      exact q.elim
end

/-! ### the end: the law's own def, called with the script -/
section
open PySem.Spec PyProof.Rows
theorem are_vals : ∀ {us : List Value} {ns : List Int}, IntsAre us ns → Vals (ns.map V.int) us
  | _, _, .nil => .nil
  | _, _, .cons _ t r => .cons ⟨t, rfl⟩ (are_vals r)
theorem lawG_end {P : Program} {w : World} {K : PySem.W.Frag} {mg mb : Str → Option Value} {k : Nat} {fa a : Addr} {fd : FuncData} {x : Str} {sp : Sp} {s₁ : Shared} {us : List Value} {ns : List Int}
    (inK : K.In s₁.heap) (gl : s₁.heap.Ns mainGlobals mg) (bl : s₁.heap.Ns builtinsNs mb) (boot : ∀ y : Str, y ≠ "__name__" → mb y = bootBuiltins y) (lim : s₁.heap.NoLimit) (gens : s₁.gens = #[])
    (at_a : s₁.heap.get? a = some { cls := .type "list", data := .seq us.toArray }) (are : IntsAre us ns) (few : ns.length ≤ sizeLine) (room : Room k callerA)
    (F : ∀ base : Heap, K.In base → base.Ns mainGlobals mg → FnG P w K mg base k fa fd [x] sp) (binds : ∀ (s : Shared) (u : Value), BindsTo s fd ⟨[u], []⟩ [(x, u)])
    (asked : ∀ H : Hp, SqL K H a (ns.map V.int) → sp [.ref a] H (fun v _ => v = .bl true) fun _ _ _ => False) :
    codeAny (model P w) callerA (.call (.ref fa) ⟨[.ref a], []⟩) (fun r s' => r = .ok (.ret (.bool true)) ∧ OldK s₁.heap s'.heap ∧ s'.os = s₁.os ∧ AllBare s'.gens) s₁ := by
  have rel := are_vals are
  have n_us := are.length
  suffices core : ∀ H : Hp, (∀ b u, H b = some u → b = a ∧ u = .frz { cls := .type "list", data := .seq us.toArray } (.lst (ns.map V.int)) ∧ K.lookup a = none) → SqL K H a (ns.map V.int) →
      codeAny (model P w) callerA (.call (.ref fa) ⟨[.ref a], []⟩) (fun r s' => r = .ok (.ret (.bool true)) ∧ OldK s₁.heap s'.heap ∧ s'.os = s₁.os ∧ AllBare s'.gens) s₁ by
    cases inF : K.lookup a with
    | some o =>
      have same := inK a o inF
      rw [at_a] at same
      cases same
      refine core (fun _ => none) (fun b u z => by cases z) (.inr ⟨_, us.toArray, _, inF, rfl, rfl, rfl, ?_, ?_⟩)
      · rw [List.size_toArray, n_us]
        exact few
      · rw [List.toList_toArray]
        exact rel
    | none =>
      refine core (fun b => if b = a then some (.frz { cls := .type "list", data := .seq us.toArray } (.lst (ns.map V.int))) else none) (fun b u z => ?_) (.inl (.inr ⟨_, if_pos rfl⟩))
      by_cases e : b = a
      · refine ⟨e, ?_, inF⟩
        have z' : (if b = a then some (HO.frz { cls := .type "list", data := .seq us.toArray } (.lst (ns.map V.int))) else none) = some u := z
        rw [if_pos e] at z'
        exact (Option.some.inj z').symm
      · have z' : (if b = a then some (HO.frz { cls := .type "list", data := .seq us.toArray } (.lst (ns.map V.int))) else none) = some u := z
        rw [if_neg e] at z'
        cases z'
  intro H only sq
  have keepK : K.In (hidT s₁.heap H) := fun b o e => hidT_get (inK b o e) (by
    cases q : H b with
    | none => rfl
    | some u =>
      obtain ⟨e1, _, e2⟩ := only b u q
      rw [e1, e2] at e
      cases e)
  have keepN : ∀ {b : Addr} {m : Str → Option Value}, s₁.heap.Ns b m → (hidT s₁.heap H).Ns b m := by
    rintro b m ⟨o, es, ep, e, d, r⟩
    refine ⟨o, es, ep, hidT_get e ?_, d, r⟩
    cases q : H b with
    | none => rfl
    | some u =>
      obtain ⟨e1, _, _⟩ := only b u q
      rw [e1, at_a] at e
      cases e
      cases d
  have ok : HOk P w H s₁.heap := by
    intro b u q
    obtain ⟨rfl, rfl, _⟩ := only b u q
    exact ⟨at_a, (by rw [List.length_map]; exact few), us, _, rel, at_a⟩
  have start : Env0 P w K mg (hidT s₁.heap H) callerA [] s₁ H := by
    refine ⟨rfl, ⟨keepK, keepN gl, ⟨mb, keepN bl, boot⟩, ?_⟩, fun b o e => of_hidT e, Nat.le_of_eq (hidT_size _ _), trivial, fun b hb => ?_, ok, .of_eq gens⟩
    · obtain ⟨mc, h1, h2⟩ := lim
      exact ⟨mc, keepN h1, h2⟩
    · cases hb
  refine codeAny_mono ((F _ keepK (keepN gl)).goes callerA [] s₁ H ⟨[.ref a], []⟩ [.ref a] [.ref a] _ _ rfl room start (binds s₁ (.ref a)) (.cons rfl .nil) (asked H sq)) fun r s' got => ?_
  match r, got with
  | .error _, got => exact False.elim got
  | .ok .next, got => exact False.elim got
  | .ok .brk, got => exact False.elim got
  | .ok .cont, got => exact False.elim got
  | .ok (.ret u), got =>
    obtain ⟨v, H2, os, bare, un, ok2, ru, q⟩ := got
    have q' : v = .bl true := q
    rw [q'] at ru
    have eu : u = Value.bool true := ru
    refine ⟨by rw [eu], OldK.of_keep fun b o e => ?_, os, bare⟩
    cases z : H b with
    | none => exact un.keep b o e z (fun y => by cases y) (fun y => by cases y)
    | some y =>
      obtain ⟨rfl, rfl, _⟩ := only b y z
      rw [at_a] at e
      cases e
      exact (ok2 _ _ (un.frzs _ _ _ z)).1
/-- the goal that k_head leaves, from the law's promise -/
theorem walkG {l : PySem.W.OpenLaw} {k : Nat} {q : Program} {loose : List Str} {XP : (Str → Option Value) → Heap → Prop} {YP : World → Heap → Prop} {d : DefRec} {K : Params → PySem.W.Frag} {sp : PySem.W.Frag → Sp} {x : Str}
    (most : l.most = some 63) (noDflt : d.params.defaults = []) (room : Room k callerA) (inK : ∀ (w : World) (h : Heap), YP w h → (K w.params).In h)
    (F : ∀ (w : World) (mg : Str → Option Value) (fa : Addr) (h : Heap), (K w.params).In h → h.Ns mainGlobals mg → mg d.name = some (.ref fa) →
      ∃ fd : FuncData, (∀ (s : Shared) (u : Value), BindsTo s fd ⟨[u], []⟩ [(x, u)]) ∧ ∀ base : Heap, (K w.params).In base → base.Ns mainGlobals mg → FnG l.prog w (K w.params) mg base k fa fd [x] (sp (K w.params)))
    (asked : ∀ (K : PySem.W.Frag) (H : Hp) (a : Addr) (ns : List Int), ns.length ≤ 63 → SqL K H a (ns.map V.int) → sp K [.ref a] H (fun v _ => v = .bl true) fun _ _ _ => False) :
    PySem.W.WalkO q loose XP YP l.row.toRowW d [] (fun g us => PySem.call g us) := by
  refine Att.attach_call most noDflt fun w s₀ s₁ mg mb fa o pm cd doc a us ns G Y _ _ _ named obj are few gens => ?_
  have KX := inK w _ Y
  obtain ⟨fd, binds, hF⟩ := F w mg fa _ KX G.T.g named
  exact lawG_end KX G.T.g G.T.b G.T.builtins G.T.nolimit gens obj are (Nat.le_trans few (by decide)) room hF binds fun H sq => asked (K w.params) H a ns few sq
end

/-! ### () * k is () itself -/
section
open PySem.Spec PyProof.Rows
theorem mul_of_empty (l : Addr) (n : Nat) (dd : Option Addr) (sl : Array (Option Value)) (x : Int) (u : Tok) (small : (decide (x < -(2 ^ 63)) || decide (x ≥ 2 ^ 63)) = false) :
    Meets (Builtin.«tuple.__mul__» ⟨[.ref l, .int x u], []⟩) (fun _ R s => s.heap.get? l = some { cls := .type "tuple", dict := dd, data := .seq #[] n, slots := sl } ∧ R (.ok (.ret (Value.ref l))) s) :=
  .of_wp fun _ _ _ _ s h => by
    obtain ⟨heap, gs, dr, tk, os⟩ := s
    obtain ⟨look, fin⟩ := h
    have f1 := AutoSeq1.idx_int
    (wp_walk using wpAny_loadPart' look)
    repeat (first
      | (refine wpAny_ite_false (decide_eq_false (by rw [small]; exact Bool.false_ne_true)) ?_; (wp_walk using wpAny_loadPart' look))
      | (refine wpAny_ite_true (decide_eq_true rfl) ?_; (wp_walk using wpAny_loadPart' look)))
    exact ⟨_, rfl, fin⟩
def rRep0 (K : PySem.W.Frag) : R2 := fun x y H Q => ∃ (l : Addr) (k : Int), x = .ref l ∧ y = .int k ∧ SqT K H l [] ∧ 2 ≤ k ∧ k ≤ 1000 ∧ Q (.ref l) H
theorem op_rep0 {X : Cx} : OpR X (binaryOp .Mult) (rRep0 X.K) := by
  intro pins s σ H x y v u Q I rx ry given
  obtain ⟨l, k, rfl, rfl, hT, h1, h2, q⟩ := given
  cases rx
  obtain ⟨t, rfl⟩ := ry
  obtain ⟨_, r, ⟨⟨cl, dd, da, sl⟩, ho, hc, n, hd⟩, _⟩ := I.tuple hT
  cases r
  simp only at hc hd
  subst hc hd
  have small : (decide (k < -(2 ^ 63)) || decide (k ≥ 2 ^ 63)) = false := by
    rw [decide_eq_false (by omega), decide_eq_false (by omega), Bool.or_false]
  exact wpAny_binaryOp_repeat_ref (T := "tuple") (U := "int") (by decide) ⟨_, ho, rfl⟩ (fun s' => typeIs_int s' k t) noFill_tuple_mul F.fills_int_mul F.slot_int_rmul repeat_tuple F.slot_int_index.lookup
    (call_meets F.slot_int_rmul (typeIs_int s k t) F.entry_int_rmul (F.args_int_rmul_2 _ _) (int_rmul_tuple k t l #[] n dd sl)
      ⟨ho, rfl, ⟨_, ho, rfl⟩, call_meets F.slot_tuple_mul ⟨_, ho, rfl⟩ F.entry_tuple_mul (F.args_tuple_mul_2 _ _) (mul_of_empty l n dd sl k t small) ⟨ho, .ref l, H, I, rfl, q⟩⟩)
end
theorem rep_words (n : Nat) (ns : List Nat) : (List.replicate n ((iN ns).map V.int)).flatten = (iN (List.replicate n ns).flatten).map V.int := by
  induction n with
  | zero => rfl
  | succ n ih =>
    rw [List.replicate_succ, List.flatten_cons, ih, List.replicate_succ, List.flatten_cons]
    unfold iN
    rw [List.map_append, List.map_append]

/-! ### data that is a tuple -/
theorem Tp.tup_inv {H : Hp} {v : V} {ds : List PyData} (h : Tp H v (.tuple ds)) : ∃ a xs, v = .ref a ∧ H a = some (.tup xs) ∧ TpAll H xs ds := by
  cases h with
  | tup h hs => exact ⟨_, _, rfl, h, hs⟩
theorem Tp.int_inv {H : Hp} {v : V} {i : Int} (h : Tp H v (.int i)) : v = .int i := by
  cases h
  rfl
theorem Tp.str_inv {H : Hp} {v : V} {z : Str} (h : Tp H v (.str z)) : v = .str z := by
  cases h
  rfl
theorem Tp.non_inv {H : Hp} {v : V} (h : Tp H v .none) : v = .non := by
  cases h
  rfl
theorem tpAll_strs {H : Hp} : ∀ {ts : List Str} {xs : List V}, TpAll H xs (ts.map .str) → xs = ts.map V.str
  | [], _, .nil => rfl
  | z :: r, _, .cons h hs => by rw [h.str_inv, tpAll_strs hs, List.map_cons]
theorem tpAll_ints {H : Hp} : ∀ {ns : List Int} {xs : List V}, TpAll H xs (ns.map .int) → xs = ns.map V.int
  | [], _, .nil => rfl
  | z :: r, _, .cons h hs => by rw [h.int_inv, tpAll_ints hs, List.map_cons]
theorem tpAll_parts {H : Hp} : ∀ {r : Rc} {xs : List V}, TpAll H xs (r.map Pt.d) → xs = r.map Pt.v
  | [], _, .nil => rfl
  | .s z :: r, _, .cons h hs => by rw [h.str_inv, tpAll_parts hs, List.map_cons]; rfl
  | .b i :: r, _, .cons h hs => by rw [h.int_inv, tpAll_parts hs, List.map_cons]; rfl
theorem Same.put {H H' : Hp} {q : Addr} {o : HO} (s : Same H H') (hq : H q = none) : Same H (upd H' q o) := fun b u e => by
  rw [upd_ne (ne_of_none e hq)]
  exact s b u e
/-- one part of a row of data that is a map -/
theorem TpAll.at {H : Hp} {α : Type} {g : α → PyData} {vs : List V} {l : List α} {i : Nat} {x : α} (h : TpAll H vs (l.map g)) (e : l[i]? = some x) : ∃ v, vs[i]? = some v ∧ Tp H v (g x) :=
  h.get (by rw [List.getElem?_map, e]; rfl)
theorem take_map_more {α β : Type} {l : List α} {g : α → β} {i : Nat} {x : α} (h : l[i]? = some x) : (l.take (i + 1)).map g = (l.take i).map g ++ [g x] := by
  rw [List.take_add_one, h, List.map_append]
  rfl
theorem ix_tupK {X : Cx} (K : PySem.W.Frag) (h : X.K = K := by rfl) : IxR X (rIxT K) := by
  rw [← h]
  exact ix_tup
theorem ix_listK {X : Cx} (K : PySem.W.Frag) (h : X.K = K := by rfl) : IxR X (rIxL K) := by
  rw [← h]
  exact ix_list
theorem isiK {X : Cx} (K : PySem.W.Frag) (h : X.K = K := by rfl) : CallR X (.builtin "isinstance") (rIsi K) := by
  rw [← h]
  exact call_isi
theorem op_catAK {X : Cx} (K : PySem.W.Frag) (h : X.K = K := by rfl) : OpR X (binaryOp .Add) (rCatA K) := by
  rw [← h]
  exact op_catA
theorem iN_app (a : List Nat) (j : Nat) : (iN (a ++ [j])).map V.int = (iN a).map V.int ++ [.int j] := by
  unfold iN
  rw [List.map_append, List.map_append]
  rfl

/-! ### slices and sums of tuples as data; texts times a number; what may be a list or a tuple -/
theorem cut_take (xs : List V) (k : Nat) (h : k ≤ xs.length) : cutV xs none (some (k : Int)) = xs.take k := by
  unfold cutV
  rw [HT.sIx_none, HT.sIx_nat, List.drop_zero, Nat.sub_zero, Nat.min_eq_left h]
theorem cut_drop (xs : List V) (k : Nat) (h : k ≤ xs.length) : cutV xs (some (k : Int)) none = xs.drop k := by
  unfold cutV
  rw [HT.sIx_none, HT.sIx_nat, Nat.min_eq_left h]
  exact List.take_of_length_le (by rw [List.length_drop]; exact Nat.le_refl _)
theorem TpAll.take {H : Hp} : ∀ {vs : List V} {ds : List PyData} (k : Nat), TpAll H vs ds → TpAll H (vs.take k) (ds.take k)
  | _, _, 0, _ => .nil
  | _, _, _ + 1, .nil => .nil
  | _, _, k + 1, .cons h hs => .cons h (TpAll.take k hs)
theorem TpAll.drop {H : Hp} : ∀ {vs : List V} {ds : List PyData} (k : Nat), TpAll H vs ds → TpAll H (vs.drop k) (ds.drop k)
  | _, _, 0, h => h
  | _, _, _ + 1, .nil => .nil
  | _, _, k + 1, .cons _ hs => TpAll.drop k hs
/-- t[:k] -/
theorem sl_take {K : PySem.W.Frag} {H : Hp} {x : V} {ds : List PyData} {k : Nat} {Q : VK} (hx : Tp H x (.tuple ds)) (hk : k ≤ ds.length) (h : ∀ (v : V) H', Same H H' → Tp H' v (.tuple (ds.take k)) → Q v H') : rSlA K x none (some (k : Int)) H Q := by
  obtain ⟨a, xs, rfl, h1, h2⟩ := hx.tup_inv
  have hk' : k ≤ xs.length := by rw [h2.len]; exact hk
  refine ⟨a, xs, rfl, SqT.of h1, fun ⟨_, e⟩ => ?_, fun _ p hp => ?_⟩
  · rw [HT.sIx_nat, Nat.min_eq_left hk'] at e
    refine h _ _ (Same.refl H) (.tup h1 ?_)
    rw [List.take_of_length_le (by rw [← h2.len, e]; exact Nat.le_refl _)]
    exact h2
  · refine h _ _ (same_new hp) (.tup upd_same ?_)
    rw [cut_take xs k hk']
    exact (h2.take k).mono (tk_new hp)
/-- t[k:] -/
theorem sl_drop {K : PySem.W.Frag} {H : Hp} {x : V} {ds : List PyData} {k : Nat} {Q : VK} (hx : Tp H x (.tuple ds)) (hk : k ≤ ds.length) (h : ∀ (v : V) H', Same H H' → Tp H' v (.tuple (ds.drop k)) → Q v H') : rSlA K x (some (k : Int)) none H Q := by
  obtain ⟨a, xs, rfl, h1, h2⟩ := hx.tup_inv
  have hk' : k ≤ xs.length := by rw [h2.len]; exact hk
  refine ⟨a, xs, rfl, SqT.of h1, fun ⟨e, _⟩ => ?_, fun _ p hp => ?_⟩
  · rw [HT.sIx_nat, Nat.min_eq_left hk'] at e
    refine h _ _ (Same.refl H) (.tup h1 ?_)
    rw [e, List.drop_zero]
    exact h2
  · refine h _ _ (same_new hp) (.tup upd_same ?_)
    rw [cut_drop xs k hk']
    exact (h2.drop k).mono (tk_new hp)
/-- t + u -/
theorem cat_tp {K : PySem.W.Frag} {H : Hp} {x y : V} {ds es : List PyData} {Q : VK} (hx : Tp H x (.tuple ds)) (hy : Tp H y (.tuple es)) (n1 : ds.length ≤ 10000) (n2 : es.length ≤ 10000) (h : ∀ (v : V) H', Same H H' → Tp H' v (.tuple (ds ++ es)) → Q v H') : rCatA K x y H Q := by
  obtain ⟨a, xs, rfl, h1, h2⟩ := hx.tup_inv
  obtain ⟨b, ys, rfl, g1, g2⟩ := hy.tup_inv
  have e1 := h2.len
  have e2 := g2.len
  refine ⟨a, b, xs, ys, rfl, rfl, SqT.of h1, SqT.of g1, Nat.le_trans (show xs.length + ys.length ≤ 20000 by omega) (by decide), fun z => ?_, fun _ z => ?_, fun _ _ p hp => ?_⟩
  · subst z
    cases h2
    exact h _ _ (Same.refl H) (.tup g1 g2)
  · subst z
    cases g2
    refine h _ _ (Same.refl H) (.tup h1 ?_)
    rw [List.append_nil]
    exact h2
  · exact h _ _ (same_new hp) (.tup upd_same ((h2.app g2).mono (tk_new hp)))
theorem sl_tupAK {X : Cx} (K : PySem.W.Frag) (h : X.K = K := by rfl) : SlR X (rSlA K) := by
  rw [← h]
  exact sl_tupA
/-- one sign, so often -/
def rowOf (c : Nat) (n : Nat) : Str := ⟨(List.replicate n c).toArray⟩
theorem rowOf_len (c n : Nat) : (rowOf c n).length = n := by
  show (List.replicate n c).toArray.size = n
  rw [List.size_toArray, List.length_replicate]
theorem rowOf_low {c n : Nat} (h : 97 ≤ c ∧ c ≤ 122) : ∀ z ∈ (rowOf c n).cps.toList, 97 ≤ z ∧ z ≤ 122 := by
  intro z hz
  have hz' : z ∈ List.replicate n c := hz
  rw [List.eq_of_mem_replicate hz']
  exact h
theorem rep_sign (c : Nat) : ∀ (n : Nat) (acc : Array Nat), (List.replicate n #[c]).foldl (· ++ ·) acc = acc ++ (List.replicate n c).toArray
  | 0, acc => by
    show acc = acc ++ #[]
    rw [Array.append_empty]
  | n + 1, acc => by
    rw [List.replicate_succ, List.foldl_cons, rep_sign c n]
    refine Array.toList_inj.mp ?_
    rw [Array.toList_append, Array.toList_append, Array.toList_append, List.replicate_succ, List.append_assoc]
    rfl
def rMulS : R2 := fun x y H Q => ∃ (c : Nat) (n : Nat), x = .str ⟨#[c]⟩ ∧ y = .int n ∧ 2 ≤ n ∧ n ≤ 100000 ∧ Q (.str (rowOf c n)) H
section
open PySem.Spec PyProof.Rows
theorem op_mulS {X : Cx} : OpR X (binaryOp .Mult) rMulS := by
  intro pins s σ H x y v u Q I rx ry given
  obtain ⟨c, n, rfl, rfl, n2, big, q⟩ := given
  obtain ⟨t, rfl⟩ := rx
  obtain ⟨t2, rfl⟩ := ry
  have one : ((⟨#[c]⟩ : Str).length) = 1 := rfl
  refine PySem.P.mul_str ?_ (fun _ _ => ?_) (fun _ _ => ?_) ?_
  · rw [decide_eq_false (by omega), decide_eq_false (by omega)]
    rfl
  · rw [one]
    have h1 : (1 : Int) ≤ (2 ^ 63 - 1) / (n : Int) := (Int.le_ediv_iff_mul_le (by omega)).mpr (by omega)
    exact Int.not_lt.mpr h1
  · rw [one, Nat.one_mul, Int.toNat_natCast]
    unfold Builtin.Str.tooLong
    exact decide_eq_false (Nat.not_lt.mpr (Nat.le_trans big (by decide)))
  · have e1 : ¬ (n : Int) < 1 := by omega
    have e2 : ((n : Int) == 1 || (⟨#[c]⟩ : Str).length == 0) = false := by
      rw [one, Bool.or_eq_false_iff]
      exact ⟨beq_eq_false_iff_ne.mpr (by omega), rfl⟩
    rw [if_neg e1, if_neg (by rw [e2]; exact Bool.false_ne_true), Int.toNat_natCast]
    have e3 : (⟨(List.replicate n (⟨#[c]⟩ : Str).cps).foldl (· ++ ·) #[]⟩ : Str) = rowOf c n := by
      refine Str.ext' ?_
      show (List.replicate n #[c]).foldl (· ++ ·) #[] = (List.replicate n c).toArray
      rw [rep_sign, Array.empty_append]
    rw [e3]
    refine ⟨?_, .str _, H, I.tok _, ⟨_, rfl⟩, q⟩
    rw [rowOf_len]
    exact Nat.le_trans big (by decide)
/-- a walk over what is a list or a tuple -/
theorem pi_any {X : Cx} {tg l : Expr} {tl : TE} (h : PE X l tl) : PI X tg l (fun σ H R => iList X.K tl σ H R ∨ iTup X.K tl σ H R) :=
  ⟨fun pins s σ H R I q => q.elim (fun z => (pi_list (tg := tg) h).run pins s σ H R I z) (fun z => (pi_tup (tg := tg) h).run pins s σ H R I z)⟩
end
/-- a walk over a tuple, whatever is done with the items -/
theorem walk_tup {K : PySem.W.Frag} {a : Addr} {xs : List V} {body : V → Hp → (Hp → Prop) → Prop} {H0 : Hp} {Qd : Hp → Prop} (Pv : Nat → Hp → Prop) (h0 : Pv 0 H0) (hl : ∀ i H, i ≤ xs.length → Pv i H → SqT K H a xs)
    (hs : ∀ i x H, xs[i]? = some x → Pv i H → body x H (Pv (i + 1))) (hd : ∀ H, Pv xs.length H → Qd H) :
    ∃ W : Nat → Nat → Hp → Prop, (∃ m, W 0 m H0) ∧ ∀ i m H, W i m H → ((Itt K a).stop i H ∧ Qd H) ∨ ((Itt K a).go i H ∧ ∃ Nx : Hp → Prop, (∀ H', Nx H' → ∃ m', m' < m ∧ W (i + 1) m' H') ∧ ∀ x H', (Itt K a).yld i H x H' → body x H' Nx) := by
  refine ⟨fun i m H => m = xs.length - i ∧ i ≤ xs.length ∧ Pv i H, ⟨xs.length, rfl, Nat.zero_le _, h0⟩, fun i m H ⟨em, hi, p⟩ => ?_⟩
  have at_a := hl i H hi p
  rcases Nat.lt_or_eq_of_le hi with lt | eq
  · refine .inr ⟨⟨xs, xs[i], at_a, List.getElem?_eq_getElem lt⟩, Pv (i + 1), fun H' p' => ⟨xs.length - (i + 1), by omega, rfl, lt, p'⟩, fun x H' y => ?_⟩
    obtain ⟨e, y⟩ := y
    rw [e]
    exact hs i x H (y xs at_a) p
  · refine .inl ⟨⟨xs, at_a, Nat.le_of_eq eq.symm⟩, hd H ?_⟩
    rw [← eq]
    exact p

/-! ### a walk over a text -/
theorem for_str {x : Str} {g : TG} {tb : TS} {D : Ends} {σ : L2.St} {H : Hp} (Pv : Nat → L2.St → Hp → Prop) (h0 : Pv 0 σ H)
    (hs : ∀ i c σ H, x.cps.toList[i]? = some c → Pv i σ H → g (.str ⟨#[c]⟩) σ H fun σ2 H2 => tb { D with nx := Pv (i + 1), ct := Pv (i + 1), bk := D.nx } σ2 H2) (hd : ∀ σ H, Pv x.length σ H → D.nx σ H) :
    ∃ W : Nat → Nat → L2.St → Hp → Prop, (∃ m, W 0 m σ H) ∧ ∀ i m σ H, W i m σ H →
      ((Its x).stop i H ∧ D.nx σ H) ∨ ((Its x).go i H ∧ ∃ N : L2.St → Hp → Prop, (∀ σ' H', N σ' H' → ∃ m', m' < m ∧ W (i + 1) m' σ' H') ∧ ∀ v H', (Its x).yld i H v H' → g v σ H' fun σ2 H2 => tb { D with nx := N, ct := N, bk := D.nx } σ2 H2) := by
  refine ⟨fun i m σ H => m = x.length - i ∧ i ≤ x.length ∧ Pv i σ H, ⟨x.length, rfl, Nat.zero_le _, h0⟩, ?_⟩
  rintro i m σ H ⟨em, le, p⟩
  rcases Nat.lt_or_eq_of_le le with lt | eq
  · refine .inr ⟨lt, Pv (i + 1), fun σ' H' p' => ⟨x.length - (i + 1), by omega, rfl, lt, p'⟩, fun v H' y => ?_⟩
    obtain ⟨e, c, hc, ev⟩ := y
    rw [e, ev]
    exact hs i c σ H (by rw [Array.getElem?_toList]; exact hc) p
  · refine .inl ⟨Nat.le_of_eq eq.symm, hd σ H ?_⟩
    rw [← eq]
    exact p

/-! ### texts as numbers by 29 -/
def numL : List Nat → Nat
  | [] => 0
  | c :: r => (c - 96) + 29 * numL r
def lowL (cs : List Nat) : Prop := ∀ c ∈ cs, 97 ≤ c ∧ c ≤ 122
theorem numL_app : ∀ a b : List Nat, numL (a ++ b) = numL a + 29 ^ a.length * numL b
  | [], b => by
    show numL b = 0 + 29 ^ 0 * numL b
    rw [Nat.pow_zero, Nat.one_mul, Nat.zero_add]
  | c :: r, b => by
    show (c - 96) + 29 * numL (r ++ b) = (c - 96) + 29 * numL r + 29 ^ (r.length + 1) * numL b
    rw [numL_app r b, Nat.mul_add, Nat.pow_succ, Nat.mul_comm (29 ^ r.length) 29, Nat.mul_assoc, Nat.add_assoc]
theorem numL_lt : ∀ {cs : List Nat}, lowL cs → numL cs < 29 ^ cs.length
  | [], _ => by decide
  | c :: r, h => by
    have h1 := h c List.mem_cons_self
    have h2 := numL_lt (cs := r) fun x hx => h x (List.mem_cons_of_mem _ hx)
    show (c - 96) + 29 * numL r < 29 ^ (r.length + 1)
    rw [Nat.pow_succ]
    omega
/-- the text of a number of so many digits -/
def textL : Nat → Nat → Option (List Nat)
  | 0, _ => some []
  | k + 1, n => if n = 0 then some [] else if 1 ≤ n % 29 ∧ n % 29 ≤ 26 then (textL k (n / 29)).map fun r => (96 + n % 29) :: r else none
theorem textL_zero : ∀ k : Nat, textL k 0 = some []
  | 0 => rfl
  | _ + 1 => rfl
theorem textL_num : ∀ {cs : List Nat} {k : Nat}, lowL cs → cs.length ≤ k → textL k (numL cs) = some cs
  | [], k, _, _ => textL_zero k
  | c :: r, 0, _, h => absurd h (by simp)
  | c :: r, k + 1, hl, hk => by
    have h1 := hl c List.mem_cons_self
    have h2 := textL_num (cs := r) (k := k) (fun x hx => hl x (List.mem_cons_of_mem _ hx)) (Nat.le_of_succ_le_succ hk)
    have e1 : numL (c :: r) % 29 = c - 96 := by
      show ((c - 96) + 29 * numL r) % 29 = c - 96
      rw [Nat.add_mul_mod_self_left]
      exact Nat.mod_eq_of_lt (by omega)
    have e2 : numL (c :: r) / 29 = numL r := by
      show ((c - 96) + 29 * numL r) / 29 = numL r
      rw [Nat.add_mul_div_left _ _ (by decide), Nat.div_eq_of_lt (by omega), Nat.zero_add]
    have e3 : numL (c :: r) ≠ 0 := by
      show (c - 96) + 29 * numL r ≠ 0
      omega
    unfold textL
    rw [if_neg e3, e1, if_pos ⟨by omega, by omega⟩, e2, h2]
    show some ((96 + (c - 96)) :: r) = some (c :: r)
    rw [show 96 + (c - 96) = c by omega]
/-- more room changes nothing -/
theorem textL_more : ∀ {k n : Nat}, n < 29 ^ k → textL (k + 1) n = textL k n
  | 0, n, h => by
    obtain rfl : n = 0 := by omega
    rfl
  | k + 1, n, h => by
    by_cases h0 : n = 0
    · subst h0
      rw [textL_zero, textL_zero]
    · have q : textL (k + 1) (n / 29) = textL k (n / 29) := textL_more (Nat.div_lt_of_lt_mul (by rw [Nat.pow_succ, Nat.mul_comm] at h; exact h))
      rw [textL, if_neg h0, q]
      conv => rhs; rw [textL, if_neg h0]
theorem numL_take {cs : List Nat} {i : Nat} {c : Nat} (h : cs[i]? = some c) : numL (cs.take (i + 1)) = numL (cs.take i) + 29 ^ i * (c - 96) := by
  have lt : i < cs.length := (List.getElem?_eq_some_iff.mp h).1
  rw [List.take_add_one, h, numL_app, List.length_take, Nat.min_eq_left (Nat.le_of_lt lt)]
  show numL (cs.take i) + 29 ^ i * ((c - 96) + 29 * 0) = _
  rw [Nat.mul_zero, Nat.add_zero]
def spNumbered : Sp := fun vs H Q _ => ∃ z : Str, vs = [.str z] ∧ lowL z.cps.toList ∧ z.length ≤ 100000 ∧ ∀ (t : Addr) H', Same H H' → H' t = some (.tup [.int (numL z.cps.toList : Nat), .int (29 ^ z.length : Nat)]) → Q (.ref t) H'
theorem sc_numbered : FnScope ["text", "number", "size", "letter"] ["text"] (fnScope st_law_numbered) := fnScope_by (by decide +kernel)
section
variable {P : Program} {w : World} {K : PySem.W.Frag} {mg : Str → Option Value} {base : Heap} {f : Addr} {fd : FuncData}
theorem cal_numbered (F : C8.Def K mg "_law_numbered" st_law_numbered f fd) (b : Binds K fd ["text"] []) (Bo : mg "ord" = none) : Cal P w K mg base 1 "_law_numbered" spNumbered [] := by
  refine cal0 F b .nil sc_numbered (fun vs H Q E h => ?_) (fun cdv A outer s H vs Q E hr h => ?_)
  · obtain ⟨z, rfl, _⟩ := h
    rfl
  · obtain ⟨z, rfl, hl, hz, k⟩ := h
    refine ⟨_, pss_cons (ps_asg (pe_tup (pa_cons pe_int (pa_cons pe_int pa_nil))) (pg_tup rfl (pgs_cons (pg_name (i := 1) sc_numbered.nd rfl (Or.inl rfl)) (pgs_cons (pg_name (i := 2) sc_numbered.nd rfl (Or.inl rfl)) pgs_nil))))
      (pss_cons (ps_for PassesOwn.never rfl (pi_str (pv 0)) (pg_name (i := 3) sc_numbered.nd rfl (Or.inl rfl))
        (pss_cons (ps_set (i := 1) sc_numbered.nd rfl (Or.inl rfl) (pe_op op_add (pv 1) (pe_op op_mul (pv 2) (pe_op op_sub (pe_callB call_ord (by rfl) Bo (by decide +kernel) (pa_cons (pv 3) pa_nil)) pe_int))))
        (pss_one (ps_set (i := 2) sc_numbered.nd rfl (Or.inl rfl) (pe_op op_mul (pv 2) pe_int)))))
      (pss_one (ps_ret (pe_tup (pa_cons (pv 1) (pa_cons (pv 2) pa_nil)))))), ?_⟩
    refine ⟨(by show 2 ≤ sizeLine; decide), fun t0 ht0 => ⟨t0, _, rfl, SqT.of upd_same, rfl, _, _, rfl, _, _, rfl, rfl, ?_⟩⟩
    have s0 := same_new (o := .tup [.int 0, .int 1]) ht0
    generalize upd H t0 (.tup [.int 0, .int 1]) = H0 at s0 ⊢
    refine ⟨_, rfl, z, rfl, for_str (x := z) (fun i σ H' => H' = H0 ∧ ∃ v3 : Option V, σ = [some (.str z), some (.int (numL (z.cps.toList.take i) : Nat)), some (.int (29 ^ i : Nat)), v3]) ⟨rfl, _, rfl⟩ ?_ ?_⟩
    · rintro i c σ H1 hc ⟨rfl, v3, rfl⟩
      have c1 := hl c (List.mem_of_getElem? hc)
      refine ⟨_, rfl, _, rfl, _, rfl, _, rfl, rfl, _, _, rfl, rfl, _, _, rfl, rfl, .inr ⟨?_, ?_⟩, _, _, rfl, rfl, _, rfl, _, _, rfl, rfl, .inr ⟨by decide, by decide⟩, rfl, some (.str ⟨#[c]⟩), ?_⟩
      · show -(2 ^ 64) < ((c : Nat) : Int) - 96
        omega
      · show ((c : Nat) : Int) - 96 < 2 ^ 64
        omega
      · have e1 : ((numL (z.cps.toList.take i) : Nat) : Int) + ((29 ^ i : Nat) : Int) * (((c : Nat) : Int) - 96) = ((numL (z.cps.toList.take (i + 1)) : Nat) : Int) := by
          rw [numL_take hc, Int.natCast_add, Int.natCast_mul]
          congr 2
          omega
        have e2 : ((29 ^ i : Nat) : Int) * 29 = ((29 ^ (i + 1) : Nat) : Int) := by
          rw [Nat.pow_succ, Int.natCast_mul]
          rfl
        rw [← e1, ← e2]
        rfl
    · rintro σ H1 ⟨rfl, v3, rfl⟩
      refine ⟨_, rfl, _, rfl, (by show 2 ≤ sizeLine; decide), fun t ht => k t _ (Same.trans s0 (same_new ht)) ?_⟩
      rw [upd_same]
      have e : z.cps.toList.take z.length = z.cps.toList := List.take_of_length_le (by rw [Array.length_toList]; exact Nat.le_refl _)
      rw [e]
end

/-! ### what may be shown, its numbers being great -/
structure Shw (d : PyData) : Prop where
  lay : d.canLay0 = true
  sh : d.showable = true
  dep : d.depth ≤ 50
  fits : d.shown.length ≤ sizeLine
theorem Neat.shw {k n : Nat} {d : PyData} (h : Neat k n d) (hk : k ≤ 50) (hn : n ≤ 1000000) : Shw d := ⟨h.lay, h.sh, Nat.le_trans h.dep hk, h.fits hk hn⟩
theorem log_big {i : Int} (h : i.natAbs < 10 ^ 300) : i.natAbs.log2 < 1920 := by
  by_cases h0 : i.natAbs = 0
  · rw [h0]
    decide
  · rw [Nat.log2_lt h0]
    exact Nat.lt_trans h (by decide +kernel)
theorem short_big {i : Int} (h : i.natAbs < 10 ^ 300) : PyData.intsShort 301 (.int i) = true := by
  simp only [PyData.intsShort, PyData.shown, decide_eq_true_eq]
  exact decide_eq_true (Nat.le_trans (Nat.le_of_eq (str_len _)) (int_text_length_le10 (a := i) (k := 300) (by decide) h))
theorem shw_two {i j : Int} (hi : i.natAbs < 10 ^ 300) (hj : j.natAbs < 10 ^ 300) : Shw (.tuple [.int i, .int j]) := by
  have lay : PyData.canLay0 (.tuple [.int i, .int j]) = true := by simp only [PyData.canLay0, PyData.canLayAll0, Bool.and_self]
  have short : PyData.intsShort 301 (.tuple [.int i, .int j]) = true := by
    have a := short_big hi
    have b := short_big hj
    simp only [PyData.intsShort, PyData.intsShortAll, Bool.and_eq_true] at a b ⊢
    exact ⟨a, b, trivial⟩
  have wt : PyData.weight (.tuple [.int i, .int j]) ≤ 4000 := by
    have a := log_big hi
    have b := log_big hj
    simp only [PyData.weight, PyData.weightAll]
    split <;> split <;> omega
  refine ⟨lay, ?_, by simp only [PyData.depth, PyData.depthAll]; decide, ?_⟩
  · simp only [PyData.showable, PyData.showableAll, Bool.and_eq_true, decide_eq_true_eq]
    exact ⟨log_big hi, log_big hj, trivial⟩
  · have q := PyData.shown_le 301 (by decide) _ (PyData.leavesShort_of_canLay0 301 _ lay short)
    exact Nat.le_trans q (Nat.le_trans (show (301 + 2) * PyData.weight (.tuple [.int i, .int j]) + 301 ≤ 1300000 by omega) (by decide))
def rReprS (K : PySem.W.Frag) : List V → Hp → VK → Prop := fun xs H Q => ∃ (x : V) (d : PyData), xs = [x] ∧ Dp K H x d ∧ Shw d ∧ Q (.str d.shown) H
theorem call_reprS {X : Cx} (hg : X.A.guards = some []) (hu : X.A.units + 64 < cLine) : CallR X (.builtin "repr") (rReprS X.K) := by
  intro pins s σ H xs us Q I rel h
  obtain ⟨x, d, rfl, hd, hn, q⟩ := h
  obtain ⟨u, rfl, ru⟩ := vals1 rel
  obtain ⟨as, rr⟩ := Dp.reads I d x u hd ru
  have dd := hn.dep
  cases hd
  case non =>
    cases ru
    exact PySem.P.repr_of_none ⟨.str _, H, I.tok _, ⟨_, rfl⟩, q⟩
  case bl b =>
    cases ru
    exact PySem.P.repr_of_bool ⟨.str _, H, I.tok _, ⟨_, rfl⟩, q⟩
  case int i =>
    obtain ⟨t, rfl⟩ := ru
    have sh := hn.sh
    simp only [PyData.showable, decide_eq_true_eq] at sh
    exact PySem.P.repr_of_int sh ⟨.str _, H, I.tok _, ⟨_, rfl⟩, q⟩
  case str z =>
    obtain ⟨t, rfl⟩ := ru
    exact PySem.P.repr_of_str ⟨.str _, H, I.tok _, ⟨_, rfl⟩, q⟩ hn.fits
  case lst =>
    cases ru
    exact repr_of_reads' rr hn.sh (PyData.noDict_hsm (PyData.hasDict_of_canLay _ hn.lay)) hg (by omega) (fun _ _ e => e) (fun _ _ _ kk => ⟨.str _, H, I.kept kk, ⟨_, rfl⟩, q⟩) hn.fits
  case tup =>
    cases ru
    exact repr_of_reads' rr hn.sh (PyData.noDict_hsm (PyData.hasDict_of_canLay _ hn.lay)) hg (by omega) (fun _ _ e => e) (fun _ _ _ kk => ⟨.str _, H, I.kept kk, ⟨_, rfl⟩, q⟩) hn.fits
/-! ### defs that show something, called -/
section
open PySem.Spec PyProof.Rows
structure CalG (P : Program) (w : World) (K : PySem.W.Frag) (mg : Str → Option Value) (base : Heap) (k : Nat) (x : Str) (sp : Sp) : Prop where
  ex : ∃ (f : Addr) (fd : FuncData) (ps : List Str), FnG P w K mg base k f fd ps sp ∧ mg x = some (.ref f) ∧ PySem.W.keepIn K (.ref f) = true ∧ Binds K fd ps []
theorem run_g {X : Cx} {k j : Nat} {f : Addr} {fd : FuncData} {ps : List Str} {sp : Sp} {pins : List (Addr × Obj)} {σ : L2.St} {H : Hp} {s : Shared} {Q : VK} {us : List Value} {vs : List V} (F : FnG X.prog X.w X.K X.mg X.base k f fd ps sp) (b : Binds X.K fd ps []) (gu : X.A.guards = some []) (hr : Room j X.A) (hk : k ≤ j)
    (I : Inv X pins σ H s) (r : Vals vs us) (h : sp vs H Q E0) : wpAny (model X.prog X.w) X.A (call (.ref f) us) (EP X pins σ Q) X.xe s := by
  have n : (us ++ []).length = ps.length := by
    rw [List.append_nil, ← r.length]
    exact F.many _ _ _ _ h
  have bt := b s us I.kIn n
  rw [List.append_nil] at bt
  refine wpAny_call (codeAny_mono (F.goes X.A X.stack s H ⟨us, []⟩ us vs Q E0 gu (hr.mono hk) I.env0 bt r h) fun res s' got => ?_)
  match res, got with
  | .error e, got => exact pass0 pins σ H s e s' I got
  | .ok (.ret u), got => exact I.after got
theorem pe_g {X : Cx} {k j : Nat} {x : Str} {sp : Sp} {p pos : Pos} {e : Expr} {es : List Expr} {t : TA} (c : CalG X.prog X.w X.K X.mg X.base k x sp) (gu : X.A.guards = some []) (hr : Room j X.A) (hk : k ≤ j) (hg : Gl X x) (ha : PA X (e :: es) t)
    (hdb : (x == ("__debug__" : Str)) = false := by decide) (he : starEach (e :: es) X.env = (false, eval e X.env) :: starEach es X.env := by rfl) (hpl : (backTo pos (starEach es X.env)).any (·.1) = false := by rfl) :
    PE X (.Call (.Name x p) (e :: es) [] pos) (fun σ H Q => t σ H fun vs H1 => sp vs H1 Q E0) := by
  obtain ⟨f, fd, ps, F, hm, kp, b⟩ := c.ex
  exact ⟨fun pins s σ H Q I h => wpAny_Call_Name_kw (ld_glob I hg hm (PySem.W.callWith_K (h₀ := X.base) I.ok.mod.kin kp (thn (ha.run pos pins s σ H _ I h) fun us s1 ⟨vs, H1, I1, r, q⟩ => ⟨I1.kIn, run_g F b gu hr hk I1 r q⟩) he hpl) hdb)⟩
theorem pe_g0 {X : Cx} {k j : Nat} {x : Str} {sp : Sp} {p pos : Pos} (c : CalG X.prog X.w X.K X.mg X.base k x sp) (gu : X.A.guards = some []) (hr : Room j X.A) (hk : k ≤ j) (hg : Gl X x) (hdb : (x == ("__debug__" : Str)) = false := by decide) :
    PE X (.Call (.Name x p) [] [] pos) (fun _ H Q => sp [] H Q E0) := by
  obtain ⟨f, fd, ps, F, hm, kp, b⟩ := c.ex
  exact ⟨fun pins s σ H Q I h => wpAny_Call_Name_kw (ld_glob I hg hm (PySem.W.callWith_K0 I.kIn kp (run_g (us := []) F b gu hr hk I .nil h)) hdb)⟩
end

/-! ### promises: the number and the size of a text -/
def spNumOf : Sp := fun vs H Q _ => ∃ z : Str, vs = [.str z] ∧ lowL z.cps.toList ∧ z.length ≤ 30000 ∧ ∀ H', Same H H' → Q (.int (numL z.cps.toList : Nat)) H'
def spSizeOf : Sp := fun vs H Q _ => ∃ z : Str, vs = [.str z] ∧ lowL z.cps.toList ∧ z.length ≤ 30000 ∧ ∀ H', Same H H' → Q (.int (29 ^ z.length : Nat)) H'

theorem pg_tupK {X : Cx} (K : PySem.W.Frag) {es : List Expr} {k : Nat} {t : TGs} {n : Nat} {pos : Pos} (hc : X.calm = true) (h : PGs X es t) (e : X.K = K := by rfl)
    (hn : (assignEach es X.env).length = n := by rfl) (hst : (assignEach es X.env).findIdx? (·.1) = none := by rfl) : PG X (.Tuple es k pos) (gTup K n t) := by
  rw [← e]
  exact pg_tup hc h hn hst

/-! ### shadows, as the law tells them -/
abbrev Sh := Nat × Bool
def shD (x : Sh) : PyData := .tuple [.int x.1, .bool x.2]
def shOne (z : Str) (x : Sh) : List Sh := [(x.1, x.2), (x.1 * 29 ^ z.length, x.2)] ++ (if x.2 then [] else [(x.1 * numL z.cps.toList, true)])
def shNext (f : List Sh) (z : Str) : List Sh := f.flatMap (shOne z)
def shF (ts : List Str) : List Sh := ts.foldl shNext [(1, false)]
def shadeL (ts : List Str) : List Nat := (shF ts).map (·.1)
theorem shNext_take {f : List Sh} {z : Str} {i : Nat} {x : Sh} (h : f[i]? = some x) : shNext (f.take (i + 1)) z = shNext (f.take i) z ++ shOne z x := by
  unfold shNext
  rw [List.take_add_one, h, List.flatMap_append]
  show _ ++ List.flatMap _ [x] = _
  rw [List.flatMap_cons, List.flatMap_nil, List.append_nil]
theorem shOne_len (z : Str) (x : Sh) : (shOne z x).length ≤ 3 := by
  unfold shOne
  cases x.2 <;> simp
theorem shNext_len (z : Str) : ∀ f : List Sh, (shNext f z).length ≤ 3 * f.length
  | [] => Nat.le_refl _
  | x :: f => by
    have a := shOne_len z x
    have b := shNext_len z f
    show (List.flatMap (shOne z) (x :: f)).length ≤ 3 * (f.length + 1)
    rw [List.flatMap_cons, List.length_append]
    have c : (List.flatMap (shOne z) f).length ≤ 3 * f.length := b
    omega
/-- so many parts, each so small -/
structure ShOk (k L : Nat) (f : List Sh) : Prop where
  len : f.length ≤ 3 ^ k
  lt : ∀ x ∈ f, x.1 < 2 ^ (5 * L + 1)
theorem pow29 (n : Nat) : 29 ^ n ≤ 2 ^ (5 * n) := by
  rw [Nat.pow_mul]
  exact Nat.pow_le_pow_left (by decide) n
theorem shOne_lt {z : Str} {x : Sh} {L : Nat} (hz : lowL z.cps.toList) (h : x.1 < 2 ^ (5 * L + 1)) : ∀ y ∈ shOne z x, y.1 < 2 ^ (5 * (L + z.length) + 1) := by
  have e : 5 * (L + z.length) + 1 = (5 * L + 1) + 5 * z.length := by omega
  have p := pow29 z.length
  have n := numL_lt hz
  rw [Array.length_toList] at n
  have n' : numL z.cps.toList ≤ 2 ^ (5 * z.length) := Nat.le_trans (Nat.le_of_lt n) p
  have pos : 0 < 2 ^ (5 * z.length) := Nat.pow_pos (by decide)
  have up : ∀ m, m ≤ 2 ^ (5 * z.length) → x.1 * m < 2 ^ (5 * (L + z.length) + 1) := fun m hm => by
    rw [e, Nat.pow_add]
    exact Nat.lt_of_le_of_lt (Nat.mul_le_mul_left _ hm) ((Nat.mul_lt_mul_right pos).mpr h)
  have one : x.1 < 2 ^ (5 * (L + z.length) + 1) := by
    have q := up 1 pos
    rw [Nat.mul_one] at q
    exact q
  intro y hy
  unfold shOne at hy
  rcases List.mem_append.mp hy with hy | hy
  · rcases List.mem_cons.mp hy with rfl | hy
    · exact one
    · rw [List.mem_singleton.mp hy]
      exact up _ p
  · cases hb : x.2 with
    | true =>
      rw [hb, if_pos rfl] at hy
      cases hy
    | false =>
      rw [hb, if_neg Bool.false_ne_true] at hy
      rw [List.mem_singleton.mp hy]
      exact up _ n'
theorem shNext_ok {k L : Nat} {f : List Sh} {z : Str} (h : ShOk k L f) (hz : lowL z.cps.toList) : ShOk (k + 1) (L + z.length) (shNext f z) := by
  refine ⟨?_, fun y hy => ?_⟩
  · have a := shNext_len z f
    have b := h.len
    rw [Nat.pow_succ]
    omega
  · obtain ⟨x, hx, hy⟩ := List.mem_flatMap.mp hy
    exact shOne_lt hz (h.lt x hx) y hy
def totL (ts : List Str) : Nat := (ts.map (·.length)).sum
def spShade : Sp := fun vs H Q _ => ∃ (x : V) (d : PyData) (ts : List Str), vs = [x] ∧ Tp H x (.tuple [d, .tuple (ts.map .str)]) ∧ (∀ z ∈ ts, lowL z.cps.toList) ∧ ts.length ≤ 3 ∧ totL ts ≤ 30000 ∧
  ∀ (t : Addr) H', Same H H' → H' t = some (.lst ((shadeL ts).map fun (n : Nat) => V.int n)) → Q (.ref t) H'
def nShade : List Str := ["situation", "found", "text", "number", "size", "longer", "amount", "has_number"]
theorem sc_shade : FnScope nShade ["situation"] (fnScope st_law_shade) := fnScope_by (by decide +kernel)
theorem totL_take {ts : List Str} {i : Nat} {z : Str} (h : ts[i]? = some z) : totL (ts.take (i + 1)) = totL (ts.take i) + z.length := by
  unfold totL
  rw [List.take_add_one, h, List.map_append, List.sum_append]
  show _ + ([z].map (·.length)).sum = _
  rw [List.map_cons, List.map_nil, List.sum_cons, List.sum_nil, Nat.add_zero]
theorem totL_take_le (ts : List Str) (i : Nat) : totL (ts.take i) ≤ totL ts := by
  have e : ts.take i ++ ts.drop i = ts := List.take_append_drop i ts
  have q : totL ts = totL (ts.take i) + totL (ts.drop i) := by
    unfold totL
    rw [← List.sum_append, ← List.map_append, e]
  omega
theorem totL_mem {ts : List Str} {z : Str} (h : z ∈ ts) : z.length ≤ totL ts := by
  unfold totL
  induction ts with
  | nil => cases h
  | cons a r ih =>
    rw [List.map_cons, List.sum_cons]
    rcases List.mem_cons.mp h with rfl | h
    · omega
    · have := ih h
      omega
section
variable {P : Program} {w : World} {K : PySem.W.Frag} {mg : Str → Option Value} {base : Heap} {f : Addr} {fd : FuncData}
theorem cal_shade (F : C8.Def K mg "_law_shade" st_law_shade f fd) (b : Binds K fd ["situation"] []) (Cm : Cal P w K mg base 1 "_law_numbered" spNumbered []) : Cal P w K mg base 2 "_law_shade" spShade [] := by
  refine cal0 F b .nil sc_shade (fun vs H Q E h => ?_) (fun cdv A outer s H vs Q E hr h => ?_)
  · obtain ⟨x, d, ts, rfl, _⟩ := h
    rfl
  · obtain ⟨x, d, ts, rfl, hx, low, len3, tt, k⟩ := h
    obtain ⟨a, xs, rfl, h1, h2⟩ := hx.tup_inv
    cases h2 with
    | @cons v1 x2 _ _ td h3 =>
    cases h3 with
    | @cons v2 x3 _ _ tx h4 =>
    cases h4
    obtain ⟨ta, tv, rfl, h5, h6⟩ := tx.tup_inv
    obtain rfl := tpAll_strs h6
    refine ⟨_, pss_cons (ps_set (i := 1) sc_shade.nd rfl (Or.inl rfl) (pe_lst (pa_cons (pe_tup (pa_cons pe_int (pa_cons pe_bl pa_nil))) pa_nil)))
      (pss_cons (ps_for PassesOwn.never rfl (pi_tup (pe_ix ix_tup (pv 0) pe_int (fun _ _ => rfl))) (pg_name (i := 2) sc_shade.nd rfl (Or.inl rfl))
        (pss_cons (ps_asg (pe_c Cm hr (by decide) (by rfl) (pa_cons (pv 2) pa_nil)) (pg_tup rfl (pgs_cons (pg_name (i := 3) sc_shade.nd rfl (Or.inl rfl)) (pgs_cons (pg_name (i := 4) sc_shade.nd rfl (Or.inl rfl)) pgs_nil))))
        (pss_cons (ps_set (i := 5) sc_shade.nd rfl (Or.inl rfl) (pe_lst pa_nil))
        (pss_cons (ps_for PassesOwn.never rfl (pi_list (pv 1)) (pg_tup rfl (pgs_cons (pg_name (i := 6) sc_shade.nd rfl (Or.inl rfl)) (pgs_cons (pg_name (i := 7) sc_shade.nd rfl (Or.inl rfl)) pgs_nil)))
          (pss_cons (ps_expr (pe_bm PySem.F.plainAttrs_list PySem.F.slot_list_extend PySem.F.type_list_extend mt_extend (pv 5) (pa_cons (pe_lst (pa_cons (pe_tup (pa_cons (pv 6) (pa_cons (pv 7) pa_nil))) (pa_cons (pe_tup (pa_cons (pe_op op_mulW (pv 6) (pv 4)) (pa_cons (pv 7) pa_nil))) pa_nil))) pa_nil)))
          (pss_one (ps_if (pt_not (pt_val (pv 7))) (pss_one (ps_expr (pe_bm PySem.F.plainAttrs_list PySem.F.slot_list_append PySem.F.type_list_append mt_append (pv 5) (pa_cons (pe_tup (pa_cons (pe_op op_mulW (pv 6) (pv 3)) (pa_cons pe_bl pa_nil))) pa_nil)))) pss_nil))))
        (pss_one (ps_set (i := 1) sc_shade.nd rfl (Or.inl rfl) (pv 5)))))))
      (pss_one (ps_ret (pe_lc (own := [("amount", 6), ("has_number", 7)]) (g := gTup K 2 (gCons (gName 6) (gCons (gName 7) gNil))) (tt := tYes) (by rfl) sc_shade.nd (pi_list (pv 1))
        (blkOk_by (own := [("amount", 6), ("has_number", 7)]) (N := nShade) (sc := fnScope st_law_shade) (by decide +kernel)) (fun _ _ _ _ _ => pg_tupK K rfl (pgs_cons (pg_name (i := 6) sc_shade.nd rfl (Or.inl rfl)) (pgs_cons (pg_name (i := 7) sc_shade.nd rfl (Or.inl rfl)) pgs_nil))) (fun _ _ _ _ _ => pts_nil)
        (fun _ _ _ _ _ => pv 6))))), ?_⟩
    have ok : ∀ i ≤ ts.length, ShOk i (totL (ts.take i)) (shF (ts.take i)) := by
      intro i
      induction i with
      | zero => exact fun _ => ⟨Nat.le_refl _, fun y hy => by rw [List.mem_singleton.mp hy]; show (1 : Nat) < 2 ^ (5 * 0 + 1); decide⟩
      | succ i ih =>
        intro hi
        have e := List.getElem?_eq_getElem (show i < ts.length from hi)
        have q := shNext_ok (ih (Nat.le_of_succ_le hi)) (low _ (List.getElem_mem hi))
        rw [totL_take e]
        unfold shF
        rw [foldl_more shNext [(1, false)] e]
        exact q
    refine ⟨(by show 2 ≤ sizeLine; decide), fun t0 ht0 => ⟨(by show 1 ≤ sizeLine; decide), fun F0 hF0 => ?_⟩⟩
    have s0 := Same.trans (same_new (o := .tup [V.int 1, .bl false]) ht0) (same_new (o := .lst [V.ref t0]) hF0)
    have L0 : LAt (upd (upd H t0 (.tup [V.int 1, .bl false])) F0 (.lst [V.ref t0])) F0 (([(1, false)] : List Sh).map shD) := ⟨_, upd_same, .cons (.tup (same_new hF0 _ _ upd_same) (.cons (.int _) (.cons (.bl _) .nil))) .nil⟩
    generalize upd (upd H t0 (.tup [V.int 1, .bl false])) F0 (.lst [V.ref t0]) = H0 at s0 L0 ⊢
    clear ht0 hF0
    refine ⟨_, rfl, a, _, _, _, rfl, rfl, SqT.of (s0 _ _ h1), atI_nat (j := 1) rfl, ta, rfl, ⟨_, SqT.of (s0 _ _ h5)⟩, for_tup (K := K) (a := ta) (xs := ts.map V.str) (fun i σ H' => Same H H' ∧ ∃ (Fd : Addr) (v2 v3 v4 v5 v6 v7 : Option V), σ = [some (.ref a), some (.ref Fd), v2, v3, v4, v5, v6, v7] ∧ LAt H' Fd ((shF (ts.take i)).map shD))
      ⟨s0, F0, _, _, _, _, _, _, rfl, L0⟩ (fun i σ H' _ h => SqT.of (h.1 _ _ h5)) ?_ ?_⟩
    · rintro i x σ H1 hi ⟨s1, Fd, v2, v3, v4, v5, v6, v7, rfl, us, hu, au⟩
      obtain ⟨z, hz, rfl⟩ : ∃ z, ts[i]? = some z ∧ x = V.str z := by
        rw [List.getElem?_map] at hi
        cases e : ts[i]? with
        | none =>
          rw [e] at hi
          cases hi
        | some y =>
          rw [e] at hi
          exact ⟨y, rfl, (Option.some.inj hi).symm⟩
      have ilt : i < ts.length := (List.getElem?_eq_some_iff.mp hz).1
      have zm := List.mem_of_getElem? hz
      have zl := low z zm
      have zt := totL_mem zm
      have fok := ok i (Nat.le_of_lt ilt)
      have nx : shF (ts.take (i + 1)) = shNext (shF (ts.take i)) z := foldl_more shNext [(1, false)] hz
      have tl := totL_take_le ts i
      have p27 : 3 ^ i ≤ 9 := Nat.pow_le_pow_right (n := 3) (by decide) (show i ≤ 2 by omega)
      generalize shF (ts.take i) = ff at *
      have flen : ff.length ≤ 9 := Nat.le_trans fok.len p27
      have ul : us.length = ff.length := by rw [au.len, List.length_map]
      have zn := numL_lt zl
      rw [Array.length_toList] at zn
      have zp := pow29 z.length
      have zn2 : numL z.cps.toList < 2 ^ (5 * z.length + 1) := Nat.lt_of_lt_of_le zn (Nat.le_trans zp (Nat.pow_le_pow_right (by decide) (by omega)))
      have zp2 : 29 ^ z.length < 2 ^ (5 * z.length + 1) := Nat.lt_of_le_of_lt zp (Nat.pow_lt_pow_right (by decide) (by omega))
      refine ⟨_, rfl, z, rfl, zl, by omega, fun q H2 s2 hq => ⟨q, _, rfl, SqT.of hq, rfl, _, _, rfl, _, _, rfl, rfl, Nat.zero_le _, fun L hL => ?_⟩⟩
      have s12 := Same.trans s2 (same_new (o := .lst []) hL)
      refine ⟨_, rfl, Fd, rfl, ⟨_, SqL.of (s12 _ _ hu)⟩, for_list (K := K) (a := Fd) (xs := us) (fun j σ H' => Same H2 H' ∧ H2 L = none ∧ (∃ v6 v7 : Option V, σ = [some (.ref a), some (.ref Fd), some (.str z), some (.int (numL z.cps.toList : Nat)), some (.int (29 ^ z.length : Nat)), some (.ref L), v6, v7]) ∧ LAt H' L ((shNext (ff.take j) z).map shD))
        ⟨same_new hL, hL, ⟨_, _, rfl⟩, [], upd_same, .nil⟩ (fun j σ H' _ h => SqL.of (h.1 _ _ (s2 _ _ hu))) ?_ ?_⟩
      · rintro j y σ H3 hj ⟨s3, L0', ⟨v6, v7, rfl⟩, ws, hw, aw⟩
        have jlt : j < ff.length := by
          have q := (List.getElem?_eq_some_iff.mp hj).1
          omega
        have hff := List.getElem?_eq_getElem jlt
        obtain ⟨y', hy', ty⟩ := au.at hff
        rw [hj] at hy'
        cases hy'
        have small := fok.lt _ (List.getElem_mem jlt)
        generalize ff[j] = pr at *
        obtain ⟨m, bb⟩ := pr
        obtain ⟨ya, yx, rfl, y1, y2⟩ := (ty.mono (Same.tk (Same.trans s2 s3))).tup_inv
        cases y2 with
        | @cons w1 x2 _ _ tm h3 =>
        cases h3 with
        | @cons w2 x3 _ _ tbb h4 =>
        cases h4
        obtain rfl := tm.int_inv
        cases tbb
        have wl : ws.length ≤ 27 := by
          have q := shNext_len z (ff.take j)
          rw [List.length_take] at q
          rw [aw.len, List.length_map]
          omega
        have bm : CMulW ((m : Nat) : Int) ((29 ^ z.length : Nat) : Int) := wide_mul (by rw [Int.natAbs_natCast]; exact small) (by rw [Int.natAbs_natCast]; exact zp2) (by omega) (by omega) (by omega)
        have bn : CMulW ((m : Nat) : Int) ((numL z.cps.toList : Nat) : Int) := wide_mul (by rw [Int.natAbs_natCast]; exact small) (by rw [Int.natAbs_natCast]; exact zn2) (by omega) (by omega) (by omega)
        refine ⟨ya, _, rfl, SqT.of y1, rfl, _, _, rfl, _, _, rfl, rfl, ?_⟩
        have two : (2 : Nat) ≤ sizeLine := by decide
        refine ⟨_, rfl, .inl ⟨rfl, _, SqL.of hw⟩, _, rfl, _, rfl, two, fun t1 g1 => ⟨_, rfl, _, rfl, _, _, rfl, rfl, bm, _, rfl, two, fun t2 g2 => ⟨two, fun l1 g3 => ?_⟩⟩⟩
        have a1 := same_new (o := .tup [V.int m, .bl bb]) g1
        have a2 := same_new (o := .tup [V.int ((m : Int) * ((29 ^ z.length : Nat) : Int)), .bl bb]) g2
        have a3 := same_new (o := .lst [V.ref t1, .ref t2]) g3
        have s34 := Same.trans (Same.trans a1 a2) a3
        have z1 := Same.trans a2 a3 _ _ (upd_same (H := H3) (a := t1) (o := .tup [V.int m, .bl bb]))
        have z2 := a3 _ _ (upd_same (H := upd H3 t1 (.tup [V.int m, .bl bb])) (a := t2) (o := .tup [V.int ((m : Int) * ((29 ^ z.length : Nat) : Int)), .bl bb]))
        have z3 := upd_same (H := upd (upd H3 t1 (.tup [V.int m, .bl bb])) t2 (.tup [V.int ((m : Int) * ((29 ^ z.length : Nat) : Int)), .bl bb])) (a := l1) (o := .lst [V.ref t1, .ref t2])
        refine ⟨L, l1, ws, _, rfl, rfl, s34 _ _ hw, z3, Nat.le_trans (show ws.length + 2 ≤ 100 by omega) (by decide), ?_⟩
        generalize upd (upd (upd H3 t1 (.tup [V.int m, .bl bb])) t2 (.tup [V.int ((m : Int) * ((29 ^ z.length : Nat) : Int)), .bl bb])) l1 (.lst [V.ref t1, .ref t2]) = H4 at s34 z1 z2 z3 ⊢
        have hw4 := s34 _ _ hw
        have e1 : ((m : Nat) : Int) * ((29 ^ z.length : Nat) : Int) = ((m * 29 ^ z.length : Nat) : Int) := by rw [Int.natCast_mul]
        have aw4 : TpAll H4 (ws ++ [V.ref t1, .ref t2]) ((shNext (ff.take j) z).map shD ++ [shD (m, bb), shD (m * 29 ^ z.length, bb)]) := by
          refine (aw.mono (Same.tk s34)).app (.cons (.tup z1 (.cons (.int _) (.cons (.bl _) .nil))) (.cons (.tup z2 (.cons ?_ (.cons (.bl _) .nil))) .nil))
          rw [e1]
          exact .int _
        have aw5 := aw4.mono (tk_lst (o := .lst (ws ++ [V.ref t1, .ref t2])) hw4)
        have s25 : Same H2 (upd H4 L (.lst (ws ++ [V.ref t1, .ref t2]))) := Same.put (Same.trans s3 s34) L0'
        have h5 : upd H4 L (.lst (ws ++ [V.ref t1, .ref t2])) L = some (.lst (ws ++ [V.ref t1, .ref t2])) := upd_same
        generalize upd H4 L (.lst (ws ++ [V.ref t1, .ref t2])) = H5 at aw5 s25 h5 ⊢
        refine ⟨_, rfl, _, rfl, ?_⟩
        cases bb with
        | true =>
          refine iteF' rfl ⟨s25, L0', ⟨_, _, rfl⟩, _, h5, ?_⟩
          rw [shNext_take hff, List.map_append]
          exact aw5
        | false =>
          refine iteT' rfl ⟨_, rfl, .inl ⟨rfl, _, SqL.of h5⟩, _, rfl, _, rfl, _, _, rfl, rfl, bn, two, fun t3 g4 => ?_⟩
          have h6 := same_new (o := .tup [V.int ((m : Int) * ((numL z.cps.toList : Nat) : Int)), .bl true]) g4 _ _ h5
          refine ⟨L, _, _, rfl, rfl, h6, ?_, Same.put (Same.trans s25 (same_new g4)) L0', L0', ⟨_, _, rfl⟩, ?_⟩
          · rw [List.length_append]
            exact Nat.lt_of_le_of_lt (show ws.length + 2 ≤ 100 by omega) (by decide)
          · have e2 : ((m : Nat) : Int) * ((numL z.cps.toList : Nat) : Int) = ((m * numL z.cps.toList : Nat) : Int) := by rw [Int.natCast_mul]
            have e3 : (shNext (ff.take (j + 1)) z).map shD = ((shNext (ff.take j) z).map shD ++ [shD (m, false), shD (m * 29 ^ z.length, false)]) ++ [shD (m * numL z.cps.toList, true)] := by
              rw [shNext_take hff, List.map_append, List.append_assoc]
              rfl
            rw [e3]
            refine LAt.push h6 (aw5.mono (tk_new g4)) (.tup upd_same (.cons ?_ (.cons (.bl _) .nil)))
            show Tp _ (.int (((m : Nat) : Int) * ((numL z.cps.toList : Nat) : Int))) (.int ((m * numL z.cps.toList : Nat) : Int))
            rw [e2]
            exact .int _
      · rintro σ H3 ⟨s3, L0', ⟨v6, v7, rfl⟩, hLL⟩
        rw [ul, List.take_length] at hLL
        refine ⟨_, rfl, Same.trans s1 (Same.trans s2 s3), L, _, _, _, _, _, _, rfl, ?_⟩
        rw [nx]
        exact hLL
    · rintro σ H1 ⟨s1, Fd, v2, v3, v4, v5, v6, v7, rfl, us, hu, au⟩
      rw [List.length_map, List.take_length] at au
      have ul : us.length = (shF ts).length := by rw [au.len, List.length_map]
      have fl : (shF ts).length ≤ 27 := by
        have q := (ok ts.length (Nat.le_refl _)).len
        rw [List.take_length] at q
        exact Nat.le_trans q (Nat.pow_le_pow_right (n := 3) (by decide) len3)
      refine ⟨_, rfl, Fd, rfl, ⟨_, SqL.of hu⟩, fun D hD => ?_⟩
      refine lc_list (K := K) (a := Fd) (xs := us) (fun i H' => Same H1 H' ∧ H' D = some (.lst (((shF ts).take i).map fun y => V.int y.1))) ⟨same_new hD, upd_same⟩ (fun i H' _ h => SqL.of (h.1 _ _ hu)) ?_ ?_
      · rintro j y H3 hj ⟨s3, hL⟩
        have jlt : j < (shF ts).length := by
          have q := (List.getElem?_eq_some_iff.mp hj).1
          omega
        have hff := List.getElem?_eq_getElem jlt
        obtain ⟨y', hy', ty⟩ := au.at hff
        rw [hj] at hy'
        cases hy'
        have more : (((shF ts).take (j + 1)).map fun y => V.int y.1) = (((shF ts).take j).map fun y => V.int y.1) ++ [V.int (shF ts)[j].1] := take_map_more hff
        generalize (shF ts)[j] = pr at *
        obtain ⟨m, bb⟩ := pr
        obtain ⟨ya, yx, rfl, y1, y2⟩ := (ty.mono (Same.tk s3)).tup_inv
        cases y2 with
        | @cons w1 x2 _ _ tm h3 =>
        cases h3 with
        | @cons w2 x3 _ _ tbb h4 =>
        cases h4
        obtain rfl := tm.int_inv
        refine ⟨ya, _, rfl, SqT.of y1, rfl, _, _, rfl, _, _, rfl, rfl, rfl, _, rfl, _, hL, ?_, Same.put s3 hD, by rw [upd_same, more]⟩
        rw [List.length_map, List.length_take]
        exact Nat.lt_of_le_of_lt (Nat.le_trans (Nat.min_le_right _ _) fl) (by decide)
      · rintro H3 ⟨s3, hL⟩
        rw [ul, List.take_length] at hL
        refine k D _ (Same.trans s1 s3) ?_
        rw [hL]
        unfold shadeL
        rw [List.map_map]
        rfl
end

/-! ### shadows promised -/
theorem shap {k n : Nat} {d : PyData} (h : Neat k n d) (hk : k ≤ 60) : SeqAt.shaped d = true := by
  unfold SeqAt.shaped
  have q := h.dep
  rw [h.lay, decide_eq_true (show d.depth ≤ 64 by omega)]
  rfl
def spShadow : Sp := fun vs H Q _ => ∃ (x : V) (d : PyData) (ts : List Str), vs = [x] ∧ Tp H x (.tuple [d, .tuple (ts.map .str)]) ∧ (∀ z ∈ ts, lowL z.cps.toList) ∧ 1 ≤ ts.length ∧ ts.length ≤ 3 ∧ totL ts ≤ 30000 ∧
  ∀ (t : Addr) H', Same H H' → H' t = some (.tup ((shadeL ts).map fun (n : Nat) => V.int n)) → Q (.ref t) H'
def intsD (l : List Nat) : PyData := .tuple (l.map fun (n : Nat) => .int n)
theorem dp_nats {K : PySem.W.Frag} {H : Hp} : ∀ l : List Nat, DpAll K H (l.map fun (n : Nat) => V.int n) (l.map fun (n : Nat) => .int n)
  | [] => .nil
  | n :: r => .cons (.int _) (dp_nats r)
theorem str_tp {H : Hp} : ∀ l : List Str, TpAll H (l.map V.str) (l.map .str)
  | [] => .nil
  | z :: r => .cons (.str z) (str_tp r)

/-! ### the law of shadows -/
theorem eqv_ints : ∀ l : List Nat, PyData.eqvAll (l.map fun (n : Nat) => PyData.int n) (l.map fun (n : Nat) => PyData.int n) = true
  | [] => by simp only [List.map_nil, PyData.eqvAll]
  | n :: r => by simp only [List.map_cons, PyData.eqvAll, PyData.eqv, eqv_ints r, beq_self_eq_true, Bool.and_self]
theorem eqv_strs : ∀ l : List Str, PyData.eqvAll (l.map PyData.str) (l.map PyData.str) = true
  | [] => by simp only [List.map_nil, PyData.eqvAll]
  | n :: r => by simp only [List.map_cons, PyData.eqvAll, PyData.eqv, eqv_strs r, beq_self_eq_true, Bool.and_self]
theorem ints_lay : ∀ l : List Nat, PyData.canLayAll0 (l.map fun (n : Nat) => PyData.int n) = true ∧ PyData.depthAll (l.map fun (n : Nat) => PyData.int n) = 0
  | [] => ⟨by simp only [List.map_nil, PyData.canLayAll0], by simp only [List.map_nil, PyData.depthAll]⟩
  | n :: r => by
    obtain ⟨a, b⟩ := ints_lay r
    exact ⟨by simp only [List.map_cons, PyData.canLayAll0, PyData.canLay0, a, Bool.and_self], by simp only [List.map_cons, PyData.depthAll, PyData.depth, b, Nat.max_self]⟩
theorem shap_ints (l : List Nat) : SeqAt.shaped (intsD l) = true := by
  obtain ⟨a, b⟩ := ints_lay l
  unfold SeqAt.shaped intsD
  simp only [PyData.canLay0, PyData.depth, a, b, Bool.true_and]
  decide
theorem shap_strsT {n : Nat} {l : List Str} (h : ∀ z ∈ l, Tx n z) : SeqAt.shaped (.tuple (l.map .str)) = true :=
  shap ((neatAll_map (k := 0) (a := n) fun z hz => (neat_str (low_strOk (h z hz).low)).le (Nat.le_refl _) (h z hz).len).tup) (by decide)
theorem ne_ints (l : List Nat) : (!PyData.eqv (intsD l) (intsD l)) = false := by
  unfold intsD
  simp only [PyData.eqv, eqv_ints, Bool.not_true]
theorem ne_strs (l : List Str) : (!PyData.eqv (.tuple (l.map .str)) (.tuple (l.map .str))) = false := by
  simp only [PyData.eqv, eqv_strs, Bool.not_true]
theorem shw_ints : ∀ {l : List Nat}, l.length ≤ 20 → (∀ n ∈ l, n < 10 ^ 300) → Shw (intsD l) := by
  intro l hl hb
  have all : ∀ {l : List Nat}, (∀ n ∈ l, n < 10 ^ 300) → PyData.showableAll (l.map fun (n : Nat) => PyData.int n) = true ∧ PyData.intsShortAll 301 (l.map fun (n : Nat) => PyData.int n) = true ∧ PyData.weightAll (l.map fun (n : Nat) => PyData.int n) ≤ l.length * 1922 := by
    intro l
    induction l with
    | nil => exact fun _ => ⟨by simp only [List.map_nil, PyData.showableAll], by simp only [List.map_nil, PyData.intsShortAll], by simp only [List.map_nil, PyData.weightAll, List.length_nil, Nat.zero_mul, Nat.le_refl]⟩
    | cons n r ih =>
      intro h
      obtain ⟨a, b, c⟩ := ih fun m hm => h m (List.mem_cons_of_mem _ hm)
      have hn : ((n : Nat) : Int).natAbs < 10 ^ 300 := by
        rw [Int.natAbs_natCast]
        exact h n List.mem_cons_self
      have lg := log_big hn
      refine ⟨?_, ?_, ?_⟩
      · simp only [List.map_cons, PyData.showableAll, PyData.showable, a, Bool.and_true, decide_eq_true_eq]
        exact lg
      · simp only [List.map_cons, PyData.intsShortAll, short_big hn, b, Bool.and_self]
      · simp only [List.map_cons, PyData.weightAll, PyData.weight, List.length_cons]
        split <;> omega
  obtain ⟨a, b, c⟩ := all hb
  obtain ⟨d, e⟩ := ints_lay l
  have lay : PyData.canLay0 (intsD l) = true := by
    unfold intsD
    simp only [PyData.canLay0, d]
  have short : PyData.intsShort 301 (intsD l) = true := by
    unfold intsD
    simp only [PyData.intsShort, b]
  refine ⟨lay, by unfold intsD; simp only [PyData.showable, a], by unfold intsD; simp only [PyData.depth, e]; decide, ?_⟩
  have q := PyData.shown_le 301 (by decide) _ (PyData.leavesShort_of_canLay0 301 _ lay short)
  have w : PyData.weight (intsD l) ≤ 38440 := by
    unfold intsD
    simp only [PyData.weight]
    omega
  exact Nat.le_trans q (Nat.le_trans (show (301 + 2) * PyData.weight (intsD l) + 301 ≤ 11700000 by omega) (by decide))
theorem shade_lt {ts : List Str} (low : ∀ z ∈ ts, lowL z.cps.toList) (ht : totL ts ≤ 150) : ∀ n ∈ shadeL ts, n < 10 ^ 300 := by
  have ok : ∀ i ≤ ts.length, ShOk i (totL (ts.take i)) (shF (ts.take i)) := by
    intro i
    induction i with
    | zero => exact fun _ => ⟨Nat.le_refl _, fun y hy => by rw [List.mem_singleton.mp hy]; show (1 : Nat) < 2 ^ (5 * 0 + 1); decide⟩
    | succ i ih =>
      intro hi
      have e := List.getElem?_eq_getElem (show i < ts.length from hi)
      have q := shNext_ok (ih (Nat.le_of_succ_le hi)) (low _ (List.getElem_mem hi))
      rw [totL_take e]
      unfold shF
      rw [foldl_more shNext [(1, false)] e]
      exact q
  have q := (ok ts.length (Nat.le_refl _)).lt
  rw [List.take_length] at q
  intro n hn
  obtain ⟨x, hx, rfl⟩ := List.mem_map.mp hn
  exact Nat.lt_of_lt_of_le (q x hx) (Nat.le_trans (Nat.pow_le_pow_right (by decide) (show 5 * totL ts + 1 ≤ 751 by omega)) (by decide +kernel))

/-! ### drawn texts, some alike -/
theorem dp_strs {K : PySem.W.Frag} {H : Hp} : ∀ l : List Str, DpAll K H (l.map V.str) (l.map .str)
  | [] => .nil
  | z :: r => .cons (.str z) (dp_strs r)
theorem shap_strs {n : Nat} {l : List Str} (h : ∀ z ∈ l, Tx n z) : SeqAt.shaped (.list (l.map .str)) = true :=
  shap ((neatAll_map (k := 0) (a := n) fun z hz => (neat_str (low_strOk (h z hz).low)).le (Nat.le_refl _) (h z hz).len).lst) (by decide)
theorem sum_le {l : List Str} {n : Nat} (h : ∀ z ∈ l, Tx n z) : (l.map (·.length)).sum ≤ l.length * n := by
  induction l with
  | nil => exact Nat.zero_le _
  | cons a r ih =>
    have q := (h a List.mem_cons_self).len
    have q2 := ih fun z hz => h z (List.mem_cons_of_mem _ hz)
    rw [List.map_cons, List.sum_cons, List.length_cons, Nat.succ_mul]
    omega
theorem join_tx {l : List Str} {n : Nat} (h : ∀ z ∈ l, Tx n z) : Tx (l.length * n) (Txt.join "" l) := by
  refine ⟨by rw [join_len]; exact sum_le h, fun c hc => ?_⟩
  rw [join_cps] at hc
  obtain ⟨m, h1, h2⟩ := List.mem_flatten.mp hc
  obtain ⟨y, h3, rfl⟩ := List.mem_map.mp h1
  exact (h y h3).low c h2
def spTexts : Sp := fun vs H Q _ => ∃ (p c : Addr) (m : Nat), vs = [.ref p, .int m] ∧ Pen H p c ∧ m ≤ 100 ∧ ∀ (ts : List Str) (t : Addr) H', ts.length = m → (∀ z ∈ ts, Tx 30 z) → Kp p c H H' → H' t = some (.tup (ts.map V.str)) → Q (.ref t) H'
def nTexts : List Str := ["pen", "many", "found", "lap", "text", "often"]
theorem sc_texts : FnScope nTexts ["pen", "many"] (fnScope st_law_texts) := fnScope_by (by decide +kernel)
section
variable {P : Program} {w : World} {K : PySem.W.Frag} {mg : Str → Option Value} {base : Heap} {f : Addr} {fd : FuncData}
theorem cal_texts (F : C8.Def K mg "_law_texts" st_law_texts f fd) (b : Binds K fd ["pen", "many"] []) (B : BN mg) (Bt : mg "tuple" = none) (Cd : Cal P w K mg base 2 "_law_draw" spDraw []) (Co : Cal P w K mg base 3 "_law_one_of" (spOne K) []) (Cp : Cal P w K mg base 4 "_law_piece" spPiece []) : Cal P w K mg base 5 "_law_texts" spTexts [] := by
  refine cal0 F b .nil sc_texts (fun vs H Q E h => ?_) (fun cdv A outer s H vs Q E hr h => ?_)
  · obtain ⟨p, c, m, rfl, _⟩ := h
    rfl
  · obtain ⟨p, c, m, rfl, hP, m100, k⟩ := h
    refine ⟨_, pss_cons (ps_set (i := 2) sc_texts.nd rfl (Or.inl rfl) (pe_lst pa_nil))
      (pss_cons (ps_for PassesOwn.never rfl (pi_range1 rfl B.range (pa_cons (pv 1) pa_nil)) (pg_name (i := 3) sc_texts.nd rfl (Or.inl rfl))
        (pss_cons (ps_set (i := 4) sc_texts.nd rfl (Or.inl rfl) (pe_join pe_str (pe_lc (own := [("often", 5)]) (g := gName 5) (tt := tYes) (by rfl) sc_texts.nd (pi_range1 rfl B.range (pa_cons (pe_c Cd hr (by decide) (by rfl) (pa_cons (pv 0) (pa_cons pe_int pa_nil))) pa_nil))
            (blkOk_by (own := [("often", 5)]) (N := nTexts) (sc := fnScope st_law_texts) (by decide +kernel)) (fun _ _ _ _ _ => pg_name (i := 5) sc_texts.nd rfl (Or.inl rfl)) (fun _ _ _ _ _ => pts_nil)
            (fun _ _ _ _ _ => pe_c Cp hr (by decide) (by rfl) (pa_cons (pv 0) (pa_cons pe_int pa_nil))))))
        (pss_one (ps_expr (pe_bm PySem.F.plainAttrs_list PySem.F.slot_list_append PySem.F.type_list_append mt_append (pv 2) (pa_cons (pe_ifExp (PW.pt (pw_and (pt_cmpR (op_neD hr.units) (pv 2) (pe_lst pa_nil) (nomark _)) (pw_and1 (pt_cmpR op_eq (pe_c Cd hr (by decide) (by rfl) (pa_cons (pv 0) (pa_cons pe_int pa_nil))) pe_int (nomark _)))))
            (pe_c Co hr (by decide) (by rfl) (pa_cons (pv 0) (pa_cons (pv 2) pa_nil))) (pv 4)) pa_nil))))))
      (pss_one (ps_ret (pe_callTy call_tuple_of (by rfl) Bt (by decide +kernel) (pa_cons (pv 2) pa_nil))))), ?_⟩
    refine ⟨Nat.zero_le _, fun Fl hF => ?_⟩
    have F0 : H Fl = none := hF
    have nFp := hP.ne F0
    refine ⟨_, rfl, m, rfl, by omega, by omega, for_range (n := (m : Int).toNat) (fun i σ H' => Kp p c H H' ∧ ∃ (fs : List Str) (v3 v4 : Option V), σ = [some (.ref p), some (.int m), some (.ref Fl), v3, v4, none] ∧ H' Fl = some (.lst (fs.map V.str)) ∧ fs.length = i ∧ ∀ z ∈ fs, Tx 30 z)
      ⟨(Kp.rfl' hP).new hF, [], _, _, rfl, upd_same, rfl, fun z hz => (by cases hz)⟩ ?_ ?_⟩
    · rintro i σ H1 hi ⟨k1, fs, v3, v4, rfl, hfs, fl, ftx⟩
      refine ⟨⟨_, rfl⟩, ?_⟩
      refine ⟨_, rfl, p, c, 11, rfl, k1.pen, by decide, by decide, fun d H2 d0 d1 k2 => ⟨d, rfl, by omega, by omega, fun D hD => ?_⟩⟩
      have kB := k1.trans k2
      have hfs2 := k2.but _ _ nFp hfs
      have nFD : Fl ≠ D := ne_of_none hfs2 hD
      refine lc_range (lo := 0) (n := d.toNat) (fun g H' => Kp p c H H' ∧ H' Fl = some (.lst (fs.map V.str)) ∧ H D = none ∧ ∃ ys : List Str, H' D = some (.lst (ys.map V.str)) ∧ ys.length = g ∧ ∀ y ∈ ys, Tx 3 y)
        ⟨kB.new hD, by rw [upd_ne nFD]; exact hfs2, kB.free hD, [], upd_same, rfl, fun y hy => (by cases hy)⟩ ?_ ?_
      · rintro g H3 hg ⟨k3, hf3, D0, ys, hL, hl, hy⟩
        have nDp := hP.ne D0
        refine ⟨rfl, _, rfl, p, c, 3, rfl, k3.pen, by decide, by decide, fun z H4 _ hz k4 => ⟨_, k4.but _ _ nDp hL, ?_, (k3.trans k4).put hP D0, by rw [upd_ne nFD]; exact k4.but _ _ nFp hf3, D0, ys ++ [z], ?_, ?_, ?_⟩⟩
        · rw [List.length_map]
          exact Nat.lt_of_lt_of_le (show ys.length < 1000 by omega) (by decide)
        · rw [upd_same, List.map_append]
          rfl
        · rw [List.length_append, hl]
          rfl
        · intro y hm
          rcases List.mem_append.mp hm with hm | hm
          · exact hy y hm
          · rw [List.mem_singleton.mp hm]
            exact hz
      · rintro H3 ⟨k3, hf3, D0, ys, hL, hl, hy⟩
        have jt := join_tx hy
        have jt2 : Tx 30 (Txt.join "" ys) := ⟨Nat.le_trans jt.len (by rw [hl]; omega), jt.low⟩
        have e0 : (("" : Str)).length = 0 := by decide
        refine ⟨_, D, ys, rfl, rfl, .inl (SqL.of hL), ?_, ?_⟩
        · rw [e0, Nat.mul_zero, Nat.add_zero, ← join_len]
          exact Nat.le_trans jt2.len (by decide)
        refine ⟨_, rfl, .inl ⟨rfl, _, SqL.of hf3⟩, _, rfl, Nat.zero_le _, fun e1 he1 => ?_⟩
        have hf4 := same_new (o := .lst []) he1 _ _ hf3
        have k4 := k3.new (o := .lst []) he1
        refine ⟨.list (fs.map .str), .list [], .lst (SqL.of hf4) (dp_strs fs), .lst (SqL.of upd_same) .nil, shap_strs ftx, by decide, _, rfl, ?_⟩
        rw [list_ne_nil]
        have fin : ∀ (z : Str) (H5 : Hp), Tx 30 z → Kp p c H H5 → H5 Fl = some (.lst (fs.map V.str)) → ∃ (l : Addr) (us : List V) (y : V), V.ref Fl = V.ref l ∧ [V.str z] = [y] ∧ H5 l = some (.lst us) ∧ us.length < sizeLine ∧ (Kp p c H (upd H5 l (.lst (us ++ [y]))) ∧ ∃ (fs : List Str) (v3 v4 : Option V), [some (V.ref p), some (.int m), some (.ref Fl), some (.int (0 + (i : Int))), some (.str (Txt.join "" ys)), none] = [some (V.ref p), some (.int m), some (.ref Fl), v3, v4, none] ∧ upd H5 l (.lst (us ++ [y])) Fl = some (.lst (fs.map V.str)) ∧ fs.length = i + 1 ∧ ∀ z ∈ fs, Tx 30 z) := by
          intro z H5 hz k5 h5
          refine ⟨Fl, _, _, rfl, rfl, h5, ?_, k5.put hP F0, fs ++ [z], _, _, rfl, ?_, ?_, ?_⟩
          · rw [List.length_map]
            exact Nat.lt_of_lt_of_le (show fs.length < 1000 by omega) (by decide)
          · rw [upd_same, List.map_append]
            rfl
          · rw [List.length_append, fl]
            rfl
          · intro y hm
            rcases List.mem_append.mp hm with hm | hm
            · exact ftx y hm
            · rw [List.mem_singleton.mp hm]
              exact hz
        cases hemp : (fs.map PyData.str).isEmpty with
        | true => exact iteF' rfl (iteF ⟨_, rfl, fin _ _ jt2 k4 hf4⟩)
        | false =>
          have pos : 0 < fs.length := by
            cases fs with
            | nil => cases hemp
            | cons a r => exact Nat.succ_pos _
          refine iteT' rfl ?_
          refine ⟨_, rfl, p, c, 4, rfl, k4.pen, by decide, by decide, fun g H5 _ _ k5 => ⟨rfl, _, rfl, ite2 (fun _ => ?_) (fun _ => ?_)⟩⟩
          · have hf5 := k5.but _ _ nFp hf4
            refine ⟨_, rfl, _, rfl, p, c, k5.pen, .inl ⟨Fl, _, rfl, nFp, SqL.of hf5, by rw [List.length_map]; exact pos, by rw [List.length_map]; omega, fun x H6 hx k6 => ?_⟩⟩
            obtain ⟨z, hz, rfl⟩ := List.mem_map.mp hx
            exact fin z H6 (ftx z hz) ((k4.trans k5).trans k6) (k6.but _ _ nFp hf5)
          · exact ⟨_, rfl, fin _ _ jt2 (k4.trans k5) (k5.but _ _ nFp hf4)⟩
    · rintro σ H1 ⟨k1, fs, v3, v4, rfl, hfs, fl, ftx⟩
      refine ⟨_, rfl, Fl, _, rfl, .inl ⟨SqL.of hfs, fun t ht => k fs t _ (by omega) ftx (k1.new ht) upd_same⟩⟩
end

/-! ### shadows by hand -/
instance lowL_dec (cs : List Nat) : Decidable (lowL cs) := inferInstanceAs (Decidable (∀ c ∈ cs, 97 ≤ c ∧ c ≤ 122))
def spTrue : Sp := fun vs H Q _ => vs = [] ∧ ∀ H', Same H H' → Q (.bl true) H'
theorem sc_hand : FnScope ["found"] [] (fnScope st_law_hand_right) := fnScope_by (by decide +kernel)
section
variable {P : Program} {w : World} {K : PySem.W.Frag} {mg : Str → Option Value} {base : Heap} {f : Addr} {fd : FuncData}
theorem fn_hand (F : C8.Fun K "_law_hand_right" "_law_hand_right" st_law_hand_right f fd) (Ch : Cal P w K mg base 4 "shadow" spShadow []) : FnG P w K mg base 5 f fd [] spTrue := by
  refine fnG_by F sc_hand (fun vs H Q E h => ?_) (fun cdv A outer s H vs Q E gu hr h => ?_)
  · obtain ⟨rfl, _⟩ := h
    rfl
  · obtain ⟨rfl, k⟩ := h
    refine ⟨_, pss_cons (ps_if (PW.pt (pw_or (pt_cmpR (op_neD hr.units) (pe_c Ch hr (by decide) (by rfl) (pa_cons (pe_tup (pa_cons pe_int (pa_cons (pe_tup (pa_cons pe_str pa_nil)) pa_nil))) pa_nil)) (pe_tup (pa_cons pe_int (pa_cons pe_int (pa_cons pe_int pa_nil)))) (nomark _)) (pw_or1 (pt_cmpR (op_neD hr.units) (pe_c Ch hr (by decide) (by rfl) (pa_cons (pe_tup (pa_cons pe_int (pa_cons (pe_tup (pa_cons pe_str pa_nil)) pa_nil))) pa_nil)) (pe_tup (pa_cons pe_int (pa_cons pe_int (pa_cons pe_int pa_nil)))) (nomark _))))) (pss_one (ps_ret pe_bl)) pss_nil)
      (pss_cons (ps_if (pt_cmpR (op_neD hr.units) (pe_c Ch hr (by decide) (by rfl) (pa_cons (pe_tup (pa_cons pe_int (pa_cons (pe_tup (pa_cons pe_str (pa_cons pe_str pa_nil))) pa_nil))) pa_nil)) (pe_tup (pa_cons pe_int (pa_cons pe_int (pa_cons pe_int (pa_cons pe_int (pa_cons pe_int (pa_cons pe_int (pa_cons pe_int (pa_cons pe_int pa_nil))))))))) (nomark _)) (pss_one (ps_ret pe_bl)) pss_nil)
      (pss_cons (ps_set (i := 0) sc_hand.nd rfl (Or.inl rfl) (pe_c Ch hr (by decide) (by rfl) (pa_cons (pe_tup (pa_cons pe_int (pa_cons (pe_tup (pa_cons pe_str (pa_cons pe_str (pa_cons pe_str pa_nil)))) pa_nil))) pa_nil)))
      (pss_cons (ps_if (pt_cmpR (op_neD hr.units) (pv 0) (pe_tup (pa_cons pe_int (pa_cons pe_int (pa_cons pe_int (pa_cons pe_int (pa_cons pe_int (pa_cons pe_int (pa_cons pe_int (pa_cons pe_int (pa_cons pe_int (pa_cons pe_int (pa_cons pe_int (pa_cons pe_int (pa_cons pe_int (pa_cons pe_int (pa_cons pe_int (pa_cons pe_int (pa_cons pe_int (pa_cons pe_int (pa_cons pe_int (pa_cons pe_int pa_nil))))))))))))))))))))) (nomark _)) (pss_one (ps_ret pe_bl)) pss_nil)
      (pss_one (ps_ret (pe_cmpR (op_eqD hr.units) (pe_c Ch hr (by decide) (by rfl) (pa_cons (pe_tup (pa_cons pe_int (pa_cons (pe_tup (pa_cons pe_str (pa_cons pe_str (pa_cons pe_str pa_nil)))) pa_nil))) pa_nil)) (pe_tup (pa_cons pe_int (pa_cons pe_int (pa_cons pe_int (pa_cons pe_int (pa_cons pe_int (pa_cons pe_int (pa_cons pe_int (pa_cons pe_int (pa_cons pe_int (pa_cons pe_int (pa_cons pe_int (pa_cons pe_int (pa_cons pe_int (pa_cons pe_int (pa_cons pe_int (pa_cons pe_int (pa_cons pe_int (pa_cons pe_int (pa_cons pe_int (pa_cons pe_int pa_nil))))))))))))))))))))) (nomark _))))))), ?_⟩
    refine ⟨(by show 1 ≤ sizeLine; decide), fun aH1 gH1 => ⟨(by show 2 ≤ sizeLine; decide), fun bH1 eH1 => ⟨_, _, ["abab"], rfl, .tup upd_same (.cons (.int _) (.cons (.tup (same_new eH1 _ _ upd_same) (str_tp ["abab"])) .nil)), by decide +kernel, by decide, by decide, by decide +kernel, fun tH1 H1 sH1 rH1 => ?_⟩⟩⟩
    refine ⟨(by show 3 ≤ sizeLine; decide), fun cH1 iH1 => ⟨intsD (shadeL ["abab"]), _, .tup (SqT.of (same_new iH1 _ _ rH1)) (dp_nats _), .tup (SqT.of upd_same) (.cons (.int _) (.cons (.int _) (.cons (.int _) .nil))), by decide +kernel, by decide +kernel, _, rfl, iteF' (by decide +kernel) ?_⟩⟩
    refine ⟨(by show 1 ≤ sizeLine; decide), fun aH2 gH2 => ⟨(by show 2 ≤ sizeLine; decide), fun bH2 eH2 => ⟨_, _, [""], rfl, .tup upd_same (.cons (.int _) (.cons (.tup (same_new eH2 _ _ upd_same) (str_tp [""])) .nil)), by decide +kernel, by decide, by decide, by decide +kernel, fun tH2 H2 sH2 rH2 => ?_⟩⟩⟩
    refine ⟨(by show 3 ≤ sizeLine; decide), fun cH2 iH2 => ⟨intsD (shadeL [""]), _, .tup (SqT.of (same_new iH2 _ _ rH2)) (dp_nats _), .tup (SqT.of upd_same) (.cons (.int _) (.cons (.int _) (.cons (.int _) .nil))), by decide +kernel, by decide +kernel, _, rfl, iteF' (by decide +kernel) ?_⟩⟩
    refine ⟨(by show 2 ≤ sizeLine; decide), fun aH3 gH3 => ⟨(by show 2 ≤ sizeLine; decide), fun bH3 eH3 => ⟨_, _, ["a", "b"], rfl, .tup upd_same (.cons (.int _) (.cons (.tup (same_new eH3 _ _ upd_same) (str_tp ["a", "b"])) .nil)), by decide +kernel, by decide, by decide, by decide +kernel, fun tH3 H3 sH3 rH3 => ?_⟩⟩⟩
    refine ⟨(by show 8 ≤ sizeLine; decide), fun cH3 iH3 => ⟨intsD (shadeL ["a", "b"]), _, .tup (SqT.of (same_new iH3 _ _ rH3)) (dp_nats _), .tup (SqT.of upd_same) (.cons (.int _) (.cons (.int _) (.cons (.int _) (.cons (.int _) (.cons (.int _) (.cons (.int _) (.cons (.int _) (.cons (.int _) .nil)))))))), by decide +kernel, by decide +kernel, _, rfl, iteF' (by decide +kernel) ?_⟩⟩
    refine ⟨(by show 3 ≤ sizeLine; decide), fun aH4 gH4 => ⟨(by show 2 ≤ sizeLine; decide), fun bH4 eH4 => ⟨_, _, ["a", "", "c"], rfl, .tup upd_same (.cons (.int _) (.cons (.tup (same_new eH4 _ _ upd_same) (str_tp ["a", "", "c"])) .nil)), by decide +kernel, by decide, by decide, by decide +kernel, fun tH4 H4 sH4 rH4 => ?_⟩⟩⟩
    refine ⟨_, rfl, ?_⟩
    refine ⟨(by show 20 ≤ sizeLine; decide), fun cH4 iH4 => ⟨intsD (shadeL ["a", "", "c"]), _, .tup (SqT.of (same_new iH4 _ _ rH4)) (dp_nats _), .tup (SqT.of upd_same) (.cons (.int _) (.cons (.int _) (.cons (.int _) (.cons (.int _) (.cons (.int _) (.cons (.int _) (.cons (.int _) (.cons (.int _) (.cons (.int _) (.cons (.int _) (.cons (.int _) (.cons (.int _) (.cons (.int _) (.cons (.int _) (.cons (.int _) (.cons (.int _) (.cons (.int _) (.cons (.int _) (.cons (.int _) (.cons (.int _) .nil)))))))))))))))))))), by decide +kernel, by decide +kernel, _, rfl, iteF' (by decide +kernel) ?_⟩⟩
    refine ⟨(by show 3 ≤ sizeLine; decide), fun aH5 gH5 => ⟨(by show 2 ≤ sizeLine; decide), fun bH5 eH5 => ⟨_, _, ["", "", ""], rfl, .tup upd_same (.cons (.int _) (.cons (.tup (same_new eH5 _ _ upd_same) (str_tp ["", "", ""])) .nil)), by decide +kernel, by decide, by decide, by decide +kernel, fun tH5 H5 sH5 rH5 => ?_⟩⟩⟩
    refine ⟨(by show 20 ≤ sizeLine; decide), fun cH5 iH5 => ⟨intsD (shadeL ["", "", ""]), _, .tup (SqT.of (same_new iH5 _ _ rH5)) (dp_nats _), .tup (SqT.of upd_same) (.cons (.int _) (.cons (.int _) (.cons (.int _) (.cons (.int _) (.cons (.int _) (.cons (.int _) (.cons (.int _) (.cons (.int _) (.cons (.int _) (.cons (.int _) (.cons (.int _) (.cons (.int _) (.cons (.int _) (.cons (.int _) (.cons (.int _) (.cons (.int _) (.cons (.int _) (.cons (.int _) (.cons (.int _) (.cons (.int _) .nil)))))))))))))))))))), by decide +kernel, by decide +kernel, ?_⟩⟩
    have ev : PyData.eqv (intsD (shadeL ["", "", ""])) (intsD [1, 1, 0, 1, 1, 0, 0, 0, 1, 1, 0, 1, 1, 0, 0, 0, 0, 0, 0, 0]) = true := by decide +kernel
    refine Eq.mp (congrArg (fun b => Q (.bl b) _) ev.symm) (k _ ?_)
    refine Same.trans ?_ (same_new iH5)
    refine Same.trans (Same.trans (Same.trans ?_ (same_new gH5)) (same_new eH5)) sH5
    refine Same.trans ?_ (same_new iH4)
    refine Same.trans (Same.trans (Same.trans ?_ (same_new gH4)) (same_new eH4)) sH4
    refine Same.trans ?_ (same_new iH3)
    refine Same.trans (Same.trans (Same.trans ?_ (same_new gH3)) (same_new eH3)) sH3
    refine Same.trans ?_ (same_new iH2)
    refine Same.trans (Same.trans (Same.trans ?_ (same_new gH2)) (same_new eH2)) sH2
    refine Same.trans ?_ (same_new iH1)
    exact Same.trans (Same.trans (same_new gH1) (same_new eH1)) sH1
end

/-! ### text[::-1] -/
def revS (z : Str) : Str := ⟨z.cps.toList.reverse.toArray⟩
section
open PySem.Spec PyProof.Rows
variable {X : Cx}
theorem pick_revS (z : Str) : (Builtin.Str.strSliceIndices none none (-1) z.length).filterMap (z.cps[·]?) = z.cps.toList.reverse := by
  have e : Builtin.Str.strSliceIndices none none (-1) z.length = (List.range z.length).reverse := by
    have h : Builtin.Str.strSliceIndices none none (-1) z.length = sliceRange ((z.length : Int) - 1) (-1) (-1) := by
      unfold Builtin.Str.strSliceIndices
      have h1 : ¬ ((-1 : Int) > 0) := by decide
      simp only [h1, if_false]
    rw [h, PySem.W.krv_sliceRange, PySem.W.krv_range]
  rw [e, List.filterMap_reverse]
  congr 1
  exact PySem.W.krv_all z.cps
def tRevS (te : TE) : TE := fun σ H Q => te σ H fun x H1 => ∃ z, x = .str z ∧ z.length ≤ sizeLine ∧ Q (.str (revS z)) H1
theorem pe_revS {e : Expr} {te : TE} {k : Nat} {p1 p2 p3 pos : Pos} (he : PE X e te) : PE X (.Subscript e (.Slice none none (some (.UnaryOp .USub (.Constant (.int 1) k p1) p2)) p3) pos) (tRevS te) := by
  refine ⟨fun pins s σ H Q I h => ?_⟩
  refine Subscript_ (thn (he.run pins s σ H _ I h) fun v s1 ⟨x, H1, I1, r1, q1⟩ => ?_)
  obtain ⟨z, ex, hz, q⟩ := q1
  subst ex
  obtain ⟨t, rfl⟩ := r1
  have hst : PO X (some (.UnaryOp .USub (.Constant (.int 1) k p1) p2)) (tPart (tUn (rU fun i => .int (-i)) (tC (.int 1)))) := po_some (pe_un un_neg pe_int)
  refine wpAny_Slice (thn (po_none.run pins s1 σ H1 (fun o H2 => o = none ∧ H2 = H1) I1 ⟨rfl, rfl⟩) fun vl s2 ⟨l, H2, I2, pl, el, e2⟩ => ?_)
  subst el e2
  refine thn (po_none.run pins s2 σ H2 (fun o H3 => o = none ∧ H3 = H2) I2 ⟨rfl, rfl⟩) fun vu s3 ⟨u, H3, I3, pu, eu, e3⟩ => ?_
  subst eu e3
  refine thn (hst.run pins s3 σ H3 (fun o H4 => o = some (-1) ∧ H4 = H3) I3 ⟨1, rfl, -1, rfl, rfl, rfl⟩) fun vs s4 ⟨o, H4, I4, ps, eo, e4⟩ => ?_
  subst eo e4
  cases pl
  cases pu
  obtain ⟨st, rfl, est⟩ := IsPart.raw ps
  have I5 : Inv X pins σ H4 { s4 with heap := s4.heap.push { cls := .type "slice", data := .fields #[.none, .none, partValue st] } } := I4.kept (t' := s4.toks) fun b ob q => Heap.get?_push_of_some _ q
  show wpAny (model X.prog X.w) X.A (subscriptTail e (.Slice none none (some (.UnaryOp .USub (.Constant (.int 1) k p1) p2)) p3) (.str z t) (.ref s4.heap.objs.size)) (EP X pins σ Q) X.xe { s4 with heap := s4.heap.push { cls := .type "slice", data := .fields #[.none, .none, partValue st] } }
  refine tail_any (ops := [.str z t, .ref s4.heap.objs.size]) (T := "str") (typeIs_str _ _ _) F.slot_str_getitem.lookup ?_ (by with_unfolding_all rfl)
  refine wpAny_getItem_str_slice (l := none) (u := none) (st := st) ⟨_, Heap.get?_push_size _ rfl, rfl, rfl⟩ (by rw [est]; rfl) ?_
  have e5 : sliceMade z t none none st = .str (revS z) := by
    unfold sliceMade slicePicked
    rw [est]
    show (if ((-1 : Int) == 1 && _) = true then Made.val (.str z t) else Made.str ⟨((Builtin.Str.strSliceIndices none none (-1) z.length).filterMap (z.cps[·]?)).toArray⟩) = _
    rw [if_neg (by intro h; rw [Bool.and_eq_true] at h; exact absurd h.1 (by decide)), pick_revS]
    rfl
  rw [e5]
  refine ⟨?_, .str _, H4, I5.tok _, ⟨_, rfl⟩, q⟩
  show z.cps.toList.reverse.toArray.size ≤ sizeLine
  rw [List.size_toArray, List.length_reverse, Array.length_toList]
  exact hz
end
/-! ### the program's numbers of texts -/
structure NB (mg : Str → Option Value) : Prop where
  base : ∃ t, mg "BASE" = some (.int 29 t)
theorem numL_rev {r : List Nat} {i c : Nat} (h : r[i]? = some c) : numL (r.take (i + 1)).reverse = (c - 96) + 29 * numL (r.take i).reverse := by
  rw [List.take_add_one, h]
  show numL (r.take i ++ [c]).reverse = _
  rw [List.reverse_append]
  rfl
theorem sq_half (s l : Nat) : s ^ l = (s * s) ^ (l / 2) * s ^ (l % 2) := by
  have e : 2 * (l / 2) + l % 2 = l := Nat.div_add_mod l 2
  have h : s ^ (2 * (l / 2) + l % 2) = (s * s) ^ (l / 2) * s ^ (l % 2) := by rw [Nat.pow_add, Nat.pow_mul, Nat.pow_two]
  rw [e] at h
  exact h
theorem odd_half {s l : Nat} (h : l % 2 = 1) : s ^ l = s * (s * s) ^ (l / 2) := by
  have q := sq_half s l
  rw [h, Nat.pow_one, Nat.mul_comm] at q
  exact q
theorem even_half {s l : Nat} (h : l % 2 = 0) : s ^ l = (s * s) ^ (l / 2) := by
  have q := sq_half s l
  rw [h, Nat.pow_zero, Nat.mul_one] at q
  exact q
theorem pow29b (n : Nat) : 29 ^ n ≤ 2 ^ (5 * n) := by
  rw [Nat.pow_mul]
  exact Nat.pow_le_pow_left (by decide) n
theorem pow29_lt {m : Nat} (h : m ≤ 30000) : 29 ^ m < 2 ^ 150001 :=
  Nat.lt_of_le_of_lt (pow29b m) (Nat.pow_lt_pow_right (by decide) (by omega))
theorem sq29 (k : Nat) : 29 ^ 2 ^ k * 29 ^ 2 ^ k = 29 ^ 2 ^ (k + 1) := by
  rw [← Nat.pow_add, Nat.pow_succ 2 k, Nat.mul_two]
theorem half_step (m k : Nat) : m / 2 ^ k / 2 = m / 2 ^ (k + 1) := by rw [Nat.div_div_eq_div_mul, Nat.pow_succ]
def spPow29 : Sp := fun vs H Q _ => ∃ m : Nat, vs = [.int 29, .int m] ∧ m ≤ 30000 ∧ ∀ H', Same H H' → Q (.int (29 ^ m : Nat)) H'
theorem sc_number_of : FnScope ["text", "total", "letter"] ["text"] (fnScope st_number_of_) := fnScope_by (by decide +kernel)
theorem sc_size_of : FnScope ["text"] ["text"] (fnScope st_size_of_) := fnScope_by (by decide +kernel)
theorem sc_power_of : FnScope ["base", "many", "power", "square", "left"] ["base", "many"] (fnScope st_power_of_) := fnScope_by (by decide +kernel)
section
variable {P : Program} {w : World} {K : PySem.W.Frag} {mg : Str → Option Value} {base : Heap} {f : Addr} {fd : FuncData}
theorem cal_number_of_ (lv : Nat) (F : C8.Def K mg "number_of" st_number_of_ f fd) (b : Binds K fd ["text"] []) (N : NB mg) (Bo : mg "ord" = none) : Cal P w K mg base (lv + 1) "number_of" spNumOf [] := by
  obtain ⟨tb, eb⟩ := N.base
  refine cal0 F b .nil sc_number_of (fun vs H Q E h => ?_) (fun cdv A outer s H vs Q E hr h => ?_)
  · obtain ⟨z, rfl, _⟩ := h
    rfl
  · obtain ⟨z, rfl, hl, hz, k⟩ := h
    refine ⟨_, pss_cons (ps_set (i := 1) sc_number_of.nd rfl (Or.inl rfl) pe_int)
      (pss_cons (ps_for PassesOwn.never rfl (pi_str (pe_revS (pv 0))) (pg_name (i := 2) sc_number_of.nd rfl (Or.inl rfl))
        (pss_one (ps_set (i := 1) sc_number_of.nd rfl (Or.inl rfl) (pe_op op_add (pe_op op_sub (pe_op op_add (pe_op op_mul (pv 1) (pe_glob (v := .int 29) rfl eb ⟨_, rfl⟩)) (pe_callB call_ord (by rfl) Bo (by decide +kernel) (pa_cons (pv 2) pa_nil))) (pe_callB call_ord (by rfl) Bo (by decide +kernel) (pa_cons pe_str pa_nil))) pe_int))))
      (pss_one (ps_ret (pv 1)))), ?_⟩
    refine ⟨_, rfl, z, rfl, Nat.le_trans hz (by decide), revS z, rfl, for_str (x := revS z) (fun i σ H' => H' = H ∧ ∃ v2 : Option V, σ = [some (.str z), some (.int (numL (z.cps.toList.reverse.take i).reverse : Nat)), v2]) ⟨rfl, _, rfl⟩ ?_ ?_⟩
    · rintro i c σ H1 hc ⟨rfl, v2, rfl⟩
      have hc' : z.cps.toList.reverse[i]? = some c := hc
      have c1 := hl c (List.mem_reverse.mp (List.mem_of_getElem? hc'))
      refine ⟨_, rfl, _, _, rfl, rfl, .inr ⟨by decide, by decide⟩, _, rfl, _, rfl, rfl, _, _, rfl, rfl, _, rfl, rfl, _, _, rfl, rfl, _, _, rfl, rfl, rfl, some (.str ⟨#[c]⟩), ?_⟩
      have e1 : ((numL (z.cps.toList.reverse.take i).reverse : Nat) : Int) * 29 + ((c : Nat) : Int) - 97 + 1 = ((numL (z.cps.toList.reverse.take (i + 1)).reverse : Nat) : Int) := by
        rw [numL_rev hc']
        omega
      rw [← e1]
      rfl
    · rintro σ H1 ⟨rfl, v2, rfl⟩
      refine ⟨_, rfl, ?_⟩
      have e : z.cps.toList.reverse.take (revS z).length = z.cps.toList.reverse := List.take_of_length_le (by show _ ≤ z.cps.toList.reverse.toArray.size; rw [List.size_toArray]; exact Nat.le_refl _)
      rw [e, List.reverse_reverse]
      exact k _ (Same.refl _)
theorem cal_power_of_ (F : C8.Def K mg "power_of" st_power_of_ f fd) (b : Binds K fd ["base", "many"] []) : Cal P w K mg base 1 "power_of" spPow29 [] := by
  refine cal0 F b .nil sc_power_of (fun vs H Q E h => ?_) (fun cdv A outer s H vs Q E hr h => ?_)
  · obtain ⟨m, rfl, _⟩ := h
    rfl
  · obtain ⟨m, rfl, hm, k⟩ := h
    refine ⟨_, pss_cons (ps_set (i := 2) sc_power_of.nd rfl (Or.inl rfl) pe_int)
      (pss_cons (ps_set (i := 3) sc_power_of.nd rfl (Or.inl rfl) (pv 0))
      (pss_cons (ps_set (i := 4) sc_power_of.nd rfl (Or.inl rfl) (pv 1))
      (pss_cons (ps_while PassesOwn.never (pt_cmpR op_gt (pv 4) pe_int (nomark _))
        (pss_cons (ps_if (pt_truth (pe_op op_odd (pv 4) pe_int) (fun _ => rfl)) (pss_one (ps_set (i := 2) sc_power_of.nd rfl (Or.inl rfl) (pe_op op_mulW (pv 2) (pv 3)))) pss_nil)
        (pss_cons (ps_set (i := 3) sc_power_of.nd rfl (Or.inl rfl) (pe_op op_mulW (pv 3) (pv 3)))
        (pss_one (ps_set (i := 4) sc_power_of.nd rfl (Or.inl rfl) (pe_op op_halfN (pv 4) pe_int))))))
      (pss_one (ps_ret (pv 2)))))), ?_⟩
    refine ⟨_, rfl, _, rfl, while_by (fun σ H' => H' = H ∧ ∃ p k : Nat, σ = [some (.int 29), some (.int m), some (.int p), some (.int (29 ^ 2 ^ k : Nat)), some (.int (m / 2 ^ k : Nat))] ∧ p * (29 ^ 2 ^ k) ^ (m / 2 ^ k) = 29 ^ m)
      (fun σ _ => match σ with | [_, _, _, _, some (.int l)] => l.toNat | _ => 0) ⟨rfl, 1, 0, ?_, ?_⟩ ?_ ?_⟩
    · show [some (V.int 29), some (V.int m), some (V.int 1), some (V.int 29), some (V.int m)] = _
      rw [Nat.pow_zero, Nat.div_one, Nat.pow_one]
      rfl
    · rw [Nat.pow_zero, Nat.div_one, Nat.pow_one, Nat.one_mul]
    · rintro σ H1 ⟨rfl, p, k2, rfl, ev⟩
      refine ⟨_, rfl, _, _, rfl, rfl, _, rfl, ite2 (fun c => ?_) (fun c => ?_)⟩
      · have l0 : 0 < m / 2 ^ k2 := by
          have := of_decide_eq_true c
          omega
        have hk : 2 ^ k2 ≤ m := by
          rcases Nat.lt_or_ge m (2 ^ k2) with z | z
          · rw [Nat.div_eq_of_lt z] at l0
            exact absurd l0 (Nat.lt_irrefl 0)
          · exact z
        have sb : 29 ^ 2 ^ k2 < 2 ^ 150001 := pow29_lt (Nat.le_trans hk hm)
        have pb : p < 2 ^ 150001 := by
          have h1 : 1 ≤ (29 ^ 2 ^ k2) ^ (m / 2 ^ k2) := Nat.pow_pos (Nat.pow_pos (by decide))
          have h2 : p ≤ p * (29 ^ 2 ^ k2) ^ (m / 2 ^ k2) := Nat.le_mul_of_pos_right p h1
          rw [ev] at h2
          exact Nat.lt_of_le_of_lt h2 (pow29_lt hm)
        have wm : ∀ {a b : Nat}, a < 2 ^ 150001 → b < 2 ^ 150001 → CMulW (a : Int) (b : Int) := fun ha hb => wide_mul (a := 150001) (b := 150001) (by rw [Int.natAbs_natCast]; exact ha) (by rw [Int.natAbs_natCast]; exact hb) (by decide) (by decide) (by decide)
        have dec : m / 2 ^ (k2 + 1) < m / 2 ^ k2 := by
          rw [← half_step]
          exact Nat.div_lt_self l0 (by decide)
        have back : ∀ p2 : Nat, p2 * (29 ^ 2 ^ (k2 + 1)) ^ (m / 2 ^ (k2 + 1)) = 29 ^ m →
            (H1 = H1 ∧ ∃ p k : Nat, ([some (.int 29), some (.int m), some (.int p2), some (.int (((29 ^ 2 ^ k2 : Nat) : Int) * ((29 ^ 2 ^ k2 : Nat) : Int))), some (.int ((m / 2 ^ k2 / 2 : Nat) : Int))] : L2.St) = [some (.int 29), some (.int m), some (.int p), some (.int (29 ^ 2 ^ k : Nat)), some (.int (m / 2 ^ k : Nat))] ∧ p * (29 ^ 2 ^ k) ^ (m / 2 ^ k) = 29 ^ m) := fun p2 h2 => by
          refine ⟨rfl, p2, k2 + 1, ?_, h2⟩
          rw [← Int.natCast_mul, sq29, half_step]
        refine ⟨_, rfl, _, rfl, rfl, _, rfl, ite2 (fun c2 => ?_) (fun c2 => ?_)⟩
        · have od : m / 2 ^ k2 % 2 = 1 := by
            have h2 : ((m / 2 ^ k2 % 2 : Nat) : Int) ≠ 0 := by simpa using c2
            omega
          refine ⟨_, rfl, _, rfl, _, _, rfl, rfl, wm pb sb, _, rfl, _, rfl, _, _, rfl, rfl, wm sb sb, _, rfl, _, rfl, rfl, ?_, ?_⟩
          · have q := back (p * 29 ^ 2 ^ k2) (by rw [← sq29, ← half_step, Nat.mul_assoc, ← odd_half od]; exact ev)
            rw [Int.natCast_mul] at q
            exact q
          · show (((m / 2 ^ k2 / 2 : Nat) : Int)).toNat < (((m / 2 ^ k2 : Nat) : Int)).toNat
            rw [Int.toNat_natCast, Int.toNat_natCast, half_step]
            exact dec
        · have ev2 : m / 2 ^ k2 % 2 = 0 := by
            have h2 : ((m / 2 ^ k2 % 2 : Nat) : Int) = 0 := by simpa using c2
            omega
          refine ⟨_, rfl, _, rfl, _, _, rfl, rfl, wm sb sb, _, rfl, _, rfl, rfl, ?_, ?_⟩
          · exact back p (by rw [← sq29, ← half_step, ← even_half ev2]; exact ev)
          · show (((m / 2 ^ k2 / 2 : Nat) : Int)).toNat < (((m / 2 ^ k2 : Nat) : Int)).toNat
            rw [Int.toNat_natCast, Int.toNat_natCast, half_step]
            exact dec
      · have l0 : m / 2 ^ k2 = 0 := by
          rcases Nat.eq_zero_or_pos (m / 2 ^ k2) with z | z
          · exact z
          · exact absurd (decide_eq_true (by omega)) c
        rw [l0, Nat.pow_zero, Nat.mul_one] at ev
        refine ⟨_, rfl, ?_⟩
        rw [ev]
        exact k _ (Same.refl _)
    · rintro σ H1 Q1 Q2 hq ⟨v, a, i, j, e1, e2, k3, ek, q⟩
      exact ⟨v, a, i, j, e1, e2, k3, ek, hq _ _ q⟩
theorem cal_size_of_ (lv : Nat) (F : C8.Def K mg "size_of" st_size_of_ f fd) (b : Binds K fd ["text"] []) (N : NB mg) (Bl : mg "len" = none) (Cp : Cal P w K mg base 1 "power_of" spPow29 []) : Cal P w K mg base (lv + 2) "size_of" spSizeOf [] := by
  obtain ⟨tb, eb⟩ := N.base
  refine cal0 F b .nil sc_size_of (fun vs H Q E h => ?_) (fun cdv A outer s H vs Q E hr h => ?_)
  · obtain ⟨z, rfl, _⟩ := h
    rfl
  · obtain ⟨z, rfl, hl, hz, k⟩ := h
    refine ⟨_, pss_one (ps_ret (pe_c Cp hr (by omega) (by rfl) (pa_cons (pe_glob (v := .int 29) rfl eb ⟨_, rfl⟩) (pa_cons (pe_callB call_len_str (by rfl) Bl PySem.boot_len (pa_cons (pv 0) pa_nil)) pa_nil)))), ?_⟩
    exact ⟨_, rfl, _, rfl, Nat.le_trans hz (by decide), _, rfl, Nat.le_trans hz (by decide), k⟩
end

/-! ### shadows, as the program makes them: of sizes and numbers -/
abbrev Ms := Nat × Nat
def mD (m : Ms) : PyData := .tuple [.int m.1, .int m.2]
def meas (z : Str) : Ms := (29 ^ z.length, numL z.cps.toList)
def sOneM (m : Ms) (x : Sh) : List Sh := [(x.1, x.2), (x.1 * m.1, x.2)] ++ (if x.2 then [] else [(x.1 * m.2, true)])
def sNextM (f : List Sh) (m : Ms) : List Sh := f.flatMap (sOneM m)
def sFM (ms : List Ms) : List Sh := ms.foldl sNextM [(1, false)]
def shadeM (ms : List Ms) : List Nat := (sFM ms).map (·.1)
theorem shade_meas (ts : List Str) : shadeM (ts.map meas) = shadeL ts := by
  unfold shadeM shadeL sFM shF
  rw [List.foldl_map]
  rfl
/-- with the truth ahead -/
def shB (x : Sh) : PyData := .tuple [.bool x.2, .int x.1]
theorem sNextM_take {f : List Sh} {m : Ms} {i : Nat} {x : Sh} (h : f[i]? = some x) : sNextM (f.take (i + 1)) m = sNextM (f.take i) m ++ sOneM m x := by
  unfold sNextM
  rw [List.take_add_one, h, List.flatMap_append]
  show _ ++ List.flatMap _ [x] = _
  rw [List.flatMap_cons, List.flatMap_nil, List.append_nil]
theorem sOneM_len (m : Ms) (x : Sh) : (sOneM m x).length ≤ 3 := by
  unfold sOneM
  cases x.2 <;> simp
theorem sNextM_len (m : Ms) : ∀ f : List Sh, (sNextM f m).length ≤ 3 * f.length
  | [] => Nat.le_refl _
  | x :: f => by
    have a := sOneM_len m x
    have b := sNextM_len m f
    show (List.flatMap (sOneM m) (x :: f)).length ≤ 3 * (f.length + 1)
    rw [List.flatMap_cons, List.length_append]
    have c : (List.flatMap (sOneM m) f).length ≤ 3 * f.length := b
    omega
/-- so many parts, each so small -/
structure ShOkM (k B : Nat) (f : List Sh) : Prop where
  len : f.length ≤ 3 ^ k
  lt : ∀ x ∈ f, x.1 < 2 ^ (B * k + 1)
theorem sOneM_lt {m : Ms} {x : Sh} {k B : Nat} (h1 : m.1 ≤ 2 ^ B) (h2 : m.2 ≤ 2 ^ B) (h : x.1 < 2 ^ (B * k + 1)) : ∀ y ∈ sOneM m x, y.1 < 2 ^ (B * (k + 1) + 1) := by
  have e : B * (k + 1) + 1 = (B * k + 1) + B := by rw [Nat.mul_succ]; omega
  have pos : 0 < 2 ^ B := Nat.pow_pos (by decide)
  have up : ∀ a, a ≤ 2 ^ B → x.1 * a < 2 ^ (B * (k + 1) + 1) := fun a ha => by
    rw [e, Nat.pow_add]
    exact Nat.lt_of_le_of_lt (Nat.mul_le_mul_left _ ha) ((Nat.mul_lt_mul_right pos).mpr h)
  have one : x.1 < 2 ^ (B * (k + 1) + 1) := by
    have q := up 1 pos
    rw [Nat.mul_one] at q
    exact q
  intro y hy
  unfold sOneM at hy
  rcases List.mem_append.mp hy with hy | hy
  · rcases List.mem_cons.mp hy with rfl | hy
    · exact one
    · rw [List.mem_singleton.mp hy]
      exact up _ h1
  · cases hb : x.2 with
    | true =>
      rw [hb, if_pos rfl] at hy
      cases hy
    | false =>
      rw [hb, if_neg Bool.false_ne_true] at hy
      rw [List.mem_singleton.mp hy]
      exact up _ h2
theorem sNextM_ok {k B : Nat} {f : List Sh} {m : Ms} (h : ShOkM k B f) (h1 : m.1 ≤ 2 ^ B) (h2 : m.2 ≤ 2 ^ B) : ShOkM (k + 1) B (sNextM f m) := by
  refine ⟨?_, fun y hy => ?_⟩
  · have a := sNextM_len m f
    have b := h.len
    rw [Nat.pow_succ]
    omega
  · obtain ⟨x, hx, hy⟩ := List.mem_flatMap.mp hy
    exact sOneM_lt h1 h2 (h.lt x hx) y hy
def bitsM : Nat := 150000
theorem meas_le {z : Str} (hl : lowL z.cps.toList) (hz : z.length ≤ 30000) : (meas z).1 ≤ 2 ^ bitsM ∧ (meas z).2 ≤ 2 ^ bitsM := by
  have p := pow29b z.length
  have q := numL_lt hl
  rw [Array.length_toList] at q
  have r : 2 ^ (5 * z.length) ≤ 2 ^ bitsM := Nat.pow_le_pow_right (by decide) (by unfold bitsM; omega)
  exact ⟨Nat.le_trans p r, Nat.le_trans (Nat.le_of_lt q) (Nat.le_trans p r)⟩
def spMeasures : Sp := fun vs H Q _ => ∃ (x : V) (ts : List Str), vs = [x] ∧ Tp H x (.tuple (ts.map .str)) ∧ (∀ z ∈ ts, lowL z.cps.toList) ∧ ts.length ≤ 3 ∧ (∀ z ∈ ts, z.length ≤ 30000) ∧ ∀ (y : V) H', Same H H' → Tp H' y (.tuple (ts.map fun z => mD (meas z))) → Q y H'
def spShadowOf : Sp := fun vs H Q _ => ∃ (x : V) (ms : List Ms), vs = [x] ∧ Tp H x (.tuple (ms.map mD)) ∧ ms.length ≤ 3 ∧ (∀ m ∈ ms, m.1 ≤ 2 ^ bitsM ∧ m.2 ≤ 2 ^ bitsM) ∧ ∀ (t : Addr) H', Same H H' → H' t = some (.tup ((shadeM ms).map fun (n : Nat) => V.int n)) → Q (.ref t) H'
def nShadowOf : List Str := ["measures", "products", "size", "number", "longer", "has_two", "value", "_"]
theorem sc_shadow_of : FnScope nShadowOf ["measures"] (fnScope st_shadow_of_) := fnScope_by (by decide +kernel)
theorem sc_measures_of : FnScope ["texts", "text"] ["texts"] (fnScope st_measures_of_) := fnScope_by (by decide +kernel)
theorem sc_shadow : FnScope ["situation"] ["situation"] (fnScope st_shadow_) := fnScope_by (by decide +kernel)
section
variable {P : Program} {w : World} {K : PySem.W.Frag} {mg : Str → Option Value} {base : Heap} {f : Addr} {fd : FuncData}
theorem cal_measures_of_ (F : C8.Def K mg "measures_of" st_measures_of_ f fd) (b : Binds K fd ["texts"] []) (Bt : mg "tuple" = none) (Cs : Cal P w K mg base 2 "size_of" spSizeOf []) (Cn : Cal P w K mg base 1 "number_of" spNumOf []) : Cal P w K mg base 3 "measures_of" spMeasures [] := by
  refine cal0 F b .nil sc_measures_of (fun vs H Q E h => ?_) (fun cdv A outer s H vs Q E hr h => ?_)
  · obtain ⟨x, ts, rfl, _⟩ := h
    rfl
  · obtain ⟨x, ts, rfl, hx, low, l3, lz, k⟩ := h
    obtain ⟨a, xs, rfl, h1, h2⟩ := hx.tup_inv
    obtain rfl := tpAll_strs h2
    refine ⟨_, pss_one (ps_ret (pe_callTy call_tuple_of (by rfl) Bt (by decide +kernel) (pa_cons (pe_lc (own := [("text", 1)]) (g := gName 1) (tt := tYes) (by rfl) sc_measures_of.nd (pi_tup (pv 0))
        (blkOk_by (own := [("text", 1)]) (N := ["texts", "text"]) (sc := fnScope st_measures_of_) (by decide +kernel)) (fun _ _ _ _ _ => pg_name (i := 1) sc_measures_of.nd rfl (Or.inl rfl)) (fun _ _ _ _ _ => pts_nil)
        (fun _ _ _ _ _ => pe_tup (pa_cons (pe_c Cs hr (by decide) (by rfl) (pa_cons (pv 1) pa_nil)) (pa_cons (pe_c Cn hr (by decide) (by rfl) (pa_cons (pv 1) pa_nil)) pa_nil)))) pa_nil))), ?_⟩
    refine ⟨_, rfl, a, rfl, ⟨_, SqT.of h1⟩, fun D hD => ?_⟩
    refine lc_tup (K := K) (a := a) (xs := ts.map V.str) (fun i H' => Same H H' ∧ LAt H' D ((ts.take i).map fun z => mD (meas z))) ⟨same_new hD, [], upd_same, .nil⟩ (fun i H' _ h => SqT.of (h.1 _ _ h1)) ?_ ?_
    · rintro i y H1 hi ⟨s1, ys, hL, ha⟩
      rw [List.getElem?_map] at hi
      cases ez : ts[i]? with
      | none =>
        rw [ez] at hi
        cases hi
      | some z =>
      rw [ez] at hi
      obtain rfl : V.str z = y := Option.some.inj hi
      have zm := List.mem_of_getElem? ez
      refine ⟨rfl, _, rfl, z, rfl, low z zm, lz z zm, fun H2 s2 => ⟨_, rfl, z, rfl, low z zm, lz z zm, fun H3 s3 => ⟨(by show 2 ≤ sizeLine; decide), fun t ht => ?_⟩⟩⟩
      have s23 := Same.trans s2 s3
      have hL3 := s23 _ _ hL
      have s4 := same_new (o := .tup [V.int (29 ^ z.length : Nat), .int (numL z.cps.toList : Nat)]) ht
      have il : i < ts.length := (List.getElem?_eq_some_iff.mp ez).1
      refine ⟨_, s4 _ _ hL3, ?_, Same.put (Same.trans (Same.trans s1 s23) s4) hD, ?_⟩
      · rw [ha.len, List.length_map, List.length_take]
        exact Nat.lt_of_le_of_lt (Nat.le_trans (Nat.min_le_right _ _) l3) (by decide)
      · rw [take_map_more ez]
        exact LAt.push (s4 _ _ hL3) ((ha.mono (Same.tk s23)).mono (Same.tk s4)) (.tup upd_same (.cons (.int _) (.cons (.int _) .nil)))
    · rintro H1 ⟨s1, ys, hL, ha⟩
      rw [List.length_map, List.take_length] at ha
      refine ⟨D, _, rfl, .inl ⟨SqL.of hL, fun p hp => k _ _ (Same.trans s1 (same_new hp)) (.tup upd_same (ha.mono (tk_new hp)))⟩⟩
theorem cal_shadow_of_ (F : C8.Def K mg "shadow_of" st_shadow_of_ f fd) (b : Binds K fd ["measures"] []) (Bt : mg "tuple" = none) : Cal P w K mg base 1 "shadow_of" spShadowOf [] := by
  refine cal0 F b .nil sc_shadow_of (fun vs H Q E h => ?_) (fun cdv A outer s H vs Q E hr h => ?_)
  · obtain ⟨x, ms, rfl, _⟩ := h
    rfl
  · obtain ⟨x, ms, rfl, hx, len3, mb, k⟩ := h
    obtain ⟨a, xs, rfl, h1, h2⟩ := hx.tup_inv
    refine ⟨_, pss_cons (ps_set (i := 1) sc_shadow_of.nd rfl (Or.inl rfl) (pe_lst (pa_cons (pe_tup (pa_cons pe_bl (pa_cons pe_int pa_nil))) pa_nil)))
      (pss_cons (ps_for PassesOwn.never rfl (pi_tup (pv 0)) (pg_tup rfl (pgs_cons (pg_name (i := 2) sc_shadow_of.nd rfl (Or.inl rfl)) (pgs_cons (pg_name (i := 3) sc_shadow_of.nd rfl (Or.inl rfl)) pgs_nil)))
        (pss_cons (ps_set (i := 4) sc_shadow_of.nd rfl (Or.inl rfl) (pe_lst pa_nil))
        (pss_cons (ps_for PassesOwn.never rfl (pi_list (pv 1)) (pg_tup rfl (pgs_cons (pg_name (i := 5) sc_shadow_of.nd rfl (Or.inl rfl)) (pgs_cons (pg_name (i := 6) sc_shadow_of.nd rfl (Or.inl rfl)) pgs_nil)))
          (pss_cons (ps_expr (pe_bm PySem.F.plainAttrs_list PySem.F.slot_list_append PySem.F.type_list_append mt_append (pv 4) (pa_cons (pe_tup (pa_cons (pv 5) (pa_cons (pv 6) pa_nil))) pa_nil)))
          (pss_cons (ps_expr (pe_bm PySem.F.plainAttrs_list PySem.F.slot_list_append PySem.F.type_list_append mt_append (pv 4) (pa_cons (pe_tup (pa_cons (pv 5) (pa_cons (pe_op op_mulW (pv 6) (pv 2)) pa_nil))) pa_nil)))
          (pss_one (ps_if (pt_not (pt_val (pv 5))) (pss_one (ps_expr (pe_bm PySem.F.plainAttrs_list PySem.F.slot_list_append PySem.F.type_list_append mt_append (pv 4) (pa_cons (pe_tup (pa_cons pe_bl (pa_cons (pe_op op_mulW (pv 6) (pv 3)) pa_nil))) pa_nil)))) pss_nil)))))
        (pss_one (ps_set (i := 1) sc_shadow_of.nd rfl (Or.inl rfl) (pv 4))))))
      (pss_one (ps_ret (pe_callTy call_tuple_of (by rfl) Bt (by decide +kernel) (pa_cons (pe_lc (own := [("_", 7), ("value", 6)]) (g := gTup K 2 (gCons (gName 7) (gCons (gName 6) gNil))) (tt := tYes) (by rfl) sc_shadow_of.nd (pi_list (pv 1))
        (blkOk_by (own := [("_", 7), ("value", 6)]) (N := nShadowOf) (sc := fnScope st_shadow_of_) (by decide +kernel)) (fun _ _ _ _ _ => pg_tupK K rfl (pgs_cons (pg_name (i := 7) sc_shadow_of.nd rfl (Or.inl rfl)) (pgs_cons (pg_name (i := 6) sc_shadow_of.nd rfl (Or.inl rfl)) pgs_nil))) (fun _ _ _ _ _ => pts_nil)
        (fun _ _ _ _ _ => pv 6)) pa_nil))))), ?_⟩
    have ok : ∀ i ≤ ms.length, ShOkM i bitsM (sFM (ms.take i)) := by
      intro i
      induction i with
      | zero => exact fun _ => ⟨Nat.le_refl _, fun y hy => by rw [List.mem_singleton.mp hy]; exact Nat.one_lt_two_pow (by omega)⟩
      | succ i ih =>
        intro hi
        have e := List.getElem?_eq_getElem (show i < ms.length from hi)
        have hb := mb _ (List.getElem_mem hi)
        have q := sNextM_ok (ih (Nat.le_of_succ_le hi)) hb.1 hb.2
        unfold sFM
        rw [foldl_more sNextM [(1, false)] e]
        exact q
    refine ⟨(by show 2 ≤ sizeLine; decide), fun t0 ht0 => ⟨(by show 1 ≤ sizeLine; decide), fun F0 hF0 => ?_⟩⟩
    have s0 := Same.trans (same_new (o := .tup [V.bl false, .int 1]) ht0) (same_new (o := .lst [V.ref t0]) hF0)
    have L0 : LAt (upd (upd H t0 (.tup [V.bl false, .int 1])) F0 (.lst [V.ref t0])) F0 (([(1, false)] : List Sh).map shB) := ⟨_, upd_same, .cons (.tup (same_new hF0 _ _ upd_same) (.cons (.bl _) (.cons (.int _) .nil))) .nil⟩
    generalize upd (upd H t0 (.tup [V.bl false, .int 1])) F0 (.lst [V.ref t0]) = H0 at s0 L0 ⊢
    refine ⟨_, rfl, a, rfl, ⟨_, SqT.of (s0 _ _ h1)⟩, for_tup (K := K) (a := a) (xs := xs) (fun i σ H' => Same H H' ∧ ∃ (Fd : Addr) (v2 v3 v4 v5 v6 : Option V), σ = [some (.ref a), some (.ref Fd), v2, v3, v4, v5, v6, none] ∧ LAt H' Fd ((sFM (ms.take i)).map shB))
      ⟨s0, F0, _, _, _, _, _, rfl, L0⟩ (fun i σ H' _ h => SqT.of (h.1 _ _ h1)) ?_ ?_⟩
    · rintro i x σ H1 hi ⟨s1, Fd, v2, v3, v4, v5, v6, rfl, us, hu, au⟩
      have ilt : i < ms.length := by
        have q := (List.getElem?_eq_some_iff.mp hi).1
        rw [h2.len, List.length_map] at q
        exact q
      have hz := List.getElem?_eq_getElem ilt
      obtain ⟨x', hx', tx⟩ := h2.at hz
      rw [hi] at hx'
      cases hx'
      have zb := mb _ (List.getElem_mem ilt)
      have fok := ok i (Nat.le_of_lt ilt)
      have nx : sFM (ms.take (i + 1)) = sNextM (sFM (ms.take i)) ms[i] := foldl_more sNextM [(1, false)] hz
      generalize ms[i] = mm at *
      obtain ⟨sz, nu⟩ := mm
      have p27 : 3 ^ i ≤ 9 := Nat.pow_le_pow_right (n := 3) (by decide) (show i ≤ 2 by omega)
      generalize sFM (ms.take i) = ff at *
      have flen : ff.length ≤ 9 := Nat.le_trans fok.len p27
      have ul : us.length = ff.length := by rw [au.len, List.length_map]
      obtain ⟨q, qx, rfl, q1, q2⟩ := (tx.mono (Same.tk s1)).tup_inv
      cases q2 with
      | @cons w1 x2 _ _ tm h3 =>
      cases h3 with
      | @cons w2 x3 _ _ tn h4 =>
      cases h4
      obtain rfl := tm.int_inv
      obtain rfl := tn.int_inv
      refine ⟨q, _, rfl, SqT.of q1, rfl, _, _, rfl, _, _, rfl, rfl, Nat.zero_le _, fun L hL => ?_⟩
      have s12 := same_new (o := .lst []) hL
      refine ⟨_, rfl, Fd, rfl, ⟨_, SqL.of (s12 _ _ hu)⟩, for_list (K := K) (a := Fd) (xs := us) (fun j σ H' => Same H1 H' ∧ H1 L = none ∧ (∃ v5 v6 : Option V, σ = [some (.ref a), some (.ref Fd), some (.int sz), some (.int nu), some (.ref L), v5, v6, none]) ∧ LAt H' L ((sNextM (ff.take j) (sz, nu)).map shB))
        ⟨same_new hL, hL, ⟨_, _, rfl⟩, [], upd_same, .nil⟩ (fun j σ H' _ h => SqL.of (h.1 _ _ hu)) ?_ ?_⟩
      · rintro j y σ H3 hj ⟨s3, L0', ⟨v5, v6, rfl⟩, ws, hw, aw⟩
        have jlt : j < ff.length := by
          have q := (List.getElem?_eq_some_iff.mp hj).1
          omega
        have hff := List.getElem?_eq_getElem jlt
        obtain ⟨y', hy', ty⟩ := au.at hff
        rw [hj] at hy'
        cases hy'
        have small := fok.lt _ (List.getElem_mem jlt)
        generalize ff[j] = pr at *
        obtain ⟨m, bb⟩ := pr
        obtain ⟨ya, yx, rfl, y1, y2⟩ := (ty.mono (Same.tk s3)).tup_inv
        cases y2 with
        | @cons w1 x2 _ _ tbb h3 =>
        cases h3 with
        | @cons w2 x3 _ _ tm h4 =>
        cases h4
        obtain rfl := tm.int_inv
        cases tbb
        have wl : ws.length ≤ 27 := by
          have q := sNextM_len (sz, nu) (ff.take j)
          rw [List.length_take] at q
          rw [aw.len, List.length_map]
          omega
        have big : bitsM * i + 1 + (bitsM + 1) ≤ 1000000 := by
          have : bitsM * i ≤ bitsM * 2 := Nat.mul_le_mul_left _ (by omega)
          unfold bitsM at *
          omega
        have lt1 : ∀ {c : Nat}, c ≤ 2 ^ bitsM → c < 2 ^ (bitsM + 1) := fun hc => Nat.lt_of_le_of_lt hc (Nat.pow_lt_pow_right (by decide) (by omega))
        have bm : CMulW ((m : Nat) : Int) ((sz : Nat) : Int) := wide_mul (by rw [Int.natAbs_natCast]; exact small) (by rw [Int.natAbs_natCast]; exact lt1 zb.1) (by omega) (by omega) big
        have bn : CMulW ((m : Nat) : Int) ((nu : Nat) : Int) := wide_mul (by rw [Int.natAbs_natCast]; exact small) (by rw [Int.natAbs_natCast]; exact lt1 zb.2) (by omega) (by omega) big
        refine ⟨ya, _, rfl, SqT.of y1, rfl, _, _, rfl, _, _, rfl, rfl, ?_⟩
        have two : (2 : Nat) ≤ sizeLine := by decide
        refine ⟨_, rfl, .inl ⟨rfl, _, SqL.of hw⟩, _, rfl, _, rfl, two, fun t1 g1 => ?_⟩
        have a1 := same_new (o := .tup [V.bl bb, .int m]) g1
        have hw1 := a1 _ _ hw
        refine ⟨L, _, _, rfl, rfl, hw1, Nat.lt_of_le_of_lt wl (by decide), ?_⟩
        have L1 := LAt.push hw1 (aw.mono (Same.tk a1)) (d := shB (m, bb)) (x := .ref t1) (.tup upd_same (.cons (.bl _) (.cons (.int _) .nil)))
        have sA : Same H1 (upd (upd H3 t1 (.tup [V.bl bb, .int m])) L (.lst (ws ++ [V.ref t1]))) := Same.put (Same.trans s3 a1) L0'
        generalize upd (upd H3 t1 (.tup [V.bl bb, .int m])) L (.lst (ws ++ [V.ref t1])) = H4 at L1 sA ⊢
        obtain ⟨w4, hw4, aw4⟩ := L1
        have wl4 : w4.length ≤ 28 := by
          rw [aw4.len, List.length_append, List.length_map]
          have q := aw.len
          rw [List.length_map] at q
          show _ + 1 ≤ 28
          omega
        refine ⟨_, rfl, .inl ⟨rfl, _, SqL.of hw4⟩, _, rfl, _, rfl, _, rfl, _, _, rfl, rfl, bm, two, fun t2 g2 => ?_⟩
        have e1 : ((m : Nat) : Int) * ((sz : Nat) : Int) = ((m * sz : Nat) : Int) := by rw [Int.natCast_mul]
        have a2 := same_new (o := .tup [V.bl bb, .int ((m : Int) * ((sz : Nat) : Int))]) g2
        have hw5 := a2 _ _ hw4
        refine ⟨L, _, _, rfl, rfl, hw5, Nat.lt_of_le_of_lt wl4 (by decide), ?_⟩
        have L2' := LAt.push hw5 (aw4.mono (Same.tk a2)) (d := shB (m * sz, bb)) (x := .ref t2) (.tup upd_same (.cons (.bl _) (.cons (by show Tp _ (.int (((m : Nat) : Int) * ((sz : Nat) : Int))) (.int ((m * sz : Nat) : Int)); rw [e1]; exact .int _) .nil)))
        have sB : Same H1 (upd (upd H4 t2 (.tup [V.bl bb, .int ((m : Int) * ((sz : Nat) : Int))])) L (.lst (w4 ++ [V.ref t2]))) := Same.put (Same.trans sA a2) L0'
        generalize upd (upd H4 t2 (.tup [V.bl bb, .int ((m : Int) * ((sz : Nat) : Int))])) L (.lst (w4 ++ [V.ref t2])) = H5 at L2' sB ⊢
        obtain ⟨w6, hw6, aw6⟩ := L2'
        have wl6 : w6.length ≤ 29 := by
          rw [aw6.len, List.length_append]
          have q := aw4.len
          show _ + 1 ≤ 29
          omega
        refine ⟨_, rfl, _, rfl, ?_⟩
        cases bb with
        | true =>
          refine iteF' rfl ⟨sB, L0', ⟨_, _, rfl⟩, w6, hw6, ?_⟩
          rw [sNextM_take hff, List.map_append]
          rw [List.append_assoc] at aw6
          exact aw6
        | false =>
          refine iteT' rfl ⟨_, rfl, .inl ⟨rfl, _, SqL.of hw6⟩, _, rfl, _, rfl, _, _, rfl, rfl, bn, two, fun t3 g4 => ?_⟩
          have e2 : ((m : Nat) : Int) * ((nu : Nat) : Int) = ((m * nu : Nat) : Int) := by rw [Int.natCast_mul]
          have a3 := same_new (o := .tup [V.bl true, .int ((m : Int) * ((nu : Nat) : Int))]) g4
          have hw7 := a3 _ _ hw6
          refine ⟨L, _, _, rfl, rfl, hw7, Nat.lt_of_le_of_lt wl6 (by decide), Same.put (Same.trans sB a3) L0', L0', ⟨_, _, rfl⟩, ?_⟩
          have L3 := LAt.push hw7 (aw6.mono (Same.tk a3)) (d := shB (m * nu, true)) (x := .ref t3) (.tup upd_same (.cons (.bl _) (.cons (by show Tp _ (.int (((m : Nat) : Int) * ((nu : Nat) : Int))) (.int ((m * nu : Nat) : Int)); rw [e2]; exact .int _) .nil)))
          have e3 : (sNextM (ff.take (j + 1)) (sz, nu)).map shB = (((sNextM (ff.take j) (sz, nu)).map shB ++ [shB (m, false)]) ++ [shB (m * sz, false)]) ++ [shB (m * nu, true)] := by
            rw [sNextM_take hff, List.map_append, List.append_assoc, List.append_assoc]
            rfl
          rw [e3]
          exact L3
      · rintro σ H3 ⟨s3, L0', ⟨v5, v6, rfl⟩, hLL⟩
        rw [ul, List.take_length] at hLL
        refine ⟨_, rfl, Same.trans s1 s3, L, _, _, _, _, _, rfl, ?_⟩
        rw [nx]
        exact hLL
    · rintro σ H1 ⟨s1, Fd, v2, v3, v4, v5, v6, rfl, us, hu, au⟩
      rw [h2.len, List.length_map, List.take_length] at au
      have ul : us.length = (sFM ms).length := by rw [au.len, List.length_map]
      have fl : (sFM ms).length ≤ 27 := by
        have q := (ok ms.length (Nat.le_refl _)).len
        rw [List.take_length] at q
        exact Nat.le_trans q (Nat.pow_le_pow_right (n := 3) (by decide) len3)
      refine ⟨_, rfl, Fd, rfl, ⟨_, SqL.of hu⟩, fun D hD => ?_⟩
      refine lc_list (K := K) (a := Fd) (xs := us) (fun i H' => Same H1 H' ∧ H' D = some (.lst (((sFM ms).take i).map fun y => V.int y.1))) ⟨same_new hD, upd_same⟩ (fun i H' _ h => SqL.of (h.1 _ _ hu)) ?_ ?_
      · rintro j y H3 hj ⟨s3, hL⟩
        have jlt : j < (sFM ms).length := by
          have q := (List.getElem?_eq_some_iff.mp hj).1
          omega
        have hff := List.getElem?_eq_getElem jlt
        obtain ⟨y', hy', ty⟩ := au.at hff
        rw [hj] at hy'
        cases hy'
        have more : (((sFM ms).take (j + 1)).map fun y => V.int y.1) = (((sFM ms).take j).map fun y => V.int y.1) ++ [V.int (sFM ms)[j].1] := take_map_more hff
        generalize (sFM ms)[j] = pr at *
        obtain ⟨m, bb⟩ := pr
        obtain ⟨ya, yx, rfl, y1, y2⟩ := (ty.mono (Same.tk s3)).tup_inv
        cases y2 with
        | @cons w1 x2 _ _ tbb h3 =>
        cases h3 with
        | @cons w2 x3 _ _ tm h4 =>
        cases h4
        obtain rfl := tm.int_inv
        refine ⟨ya, _, rfl, SqT.of y1, rfl, _, _, rfl, _, _, rfl, rfl, rfl, _, rfl, _, hL, ?_, Same.put s3 hD, by rw [upd_same, more]⟩
        rw [List.length_map, List.length_take]
        exact Nat.lt_of_le_of_lt (Nat.le_trans (Nat.min_le_right _ _) fl) (by decide)
      · rintro H3 ⟨s3, hL⟩
        rw [ul, List.take_length] at hL
        refine ⟨D, _, rfl, .inl ⟨SqL.of hL, fun p hp => k p _ (Same.trans (Same.trans s1 s3) (same_new hp)) ?_⟩⟩
        rw [upd_same]
        unfold shadeM
        rw [List.map_map]
        rfl
theorem cal_shadow_ (F : C8.Def K mg "shadow" st_shadow_ f fd) (b : Binds K fd ["situation"] []) (Cm : Cal P w K mg base 3 "measures_of" spMeasures []) (Co : Cal P w K mg base 1 "shadow_of" spShadowOf []) : Cal P w K mg base 4 "shadow" spShadow [] := by
  refine cal0 F b .nil sc_shadow (fun vs H Q E h => ?_) (fun cdv A outer s H vs Q E hr h => ?_)
  · obtain ⟨x, d, ts, rfl, _⟩ := h
    rfl
  · obtain ⟨x, d, ts, rfl, hx, low, n1, n3, tt, k⟩ := h
    obtain ⟨a, xs, rfl, h1, h2⟩ := hx.tup_inv
    cases h2 with
    | @cons v1 x2 _ _ td h3 =>
    cases h3 with
    | @cons v2 x3 _ _ tx h4 =>
    cases h4
    refine ⟨_, pss_one (ps_ret (pe_c Co hr (by decide) (by rfl) (pa_cons (pe_c Cm hr (by decide) (by rfl) (pa_cons (pe_ix ix_tup (pv 0) pe_int (fun _ _ => rfl)) pa_nil)) pa_nil))), ?_⟩
    refine ⟨_, rfl, a, _, _, _, rfl, rfl, SqT.of h1, atI_nat (j := 1) rfl, _, ts, rfl, tx, low, n3, fun z hz => Nat.le_trans (totL_mem hz) tt, fun y H1 s1 ty => ⟨_, ts.map meas, rfl, ?_, ?_, ?_, fun t H2 s2 ht => k t H2 (Same.trans s1 s2) ?_⟩⟩
    · rw [List.map_map]
      exact ty
    · rw [List.length_map]
      exact n3
    · intro m hm
      obtain ⟨z, hz, rfl⟩ := List.mem_map.mp hm
      exact meas_le (low z hz) (Nat.le_trans (totL_mem hz) tt)
    · rw [ht, shade_meas]
end

/-! ### what the law says of shadows -/
theorem tot30 {ts : List Str} (h : ∀ z ∈ ts, Tx 30 z) (hl : ts.length ≤ 3) : totL ts ≤ 90 := by
  have q := sum_le h
  unfold totL
  omega
/-- what the law says of the shadow of one, two, three texts -/
structure Sd (m : Nat) (ts : List Str) : Prop where
  len : atI [V.int 3, .int 8, .int 20] ((m : Int) - 1) = some (V.int ((shadeL ts).length : Nat))
  l20 : (shadeL ts).length ≤ 20
  one : ((shadeL ts).map fun (n : Nat) => V.int n)[0]? = some (V.int 1)
  last : ∃ z, atI (ts.map V.str) (-1) = some (V.str z) ∧ z ∈ ts ∧ (((shadeL ts).map fun (n : Nat) => V.int n).drop 1).take 2 = [V.int (29 ^ z.length : Nat), V.int (numL z.cps.toList : Nat)]
  first : ∃ z, ts.take 1 = [z] ∧ V.int ((1 * 29 ^ z.length : Nat) : Int) ∈ ((shadeL ts).map fun (n : Nat) => V.int n) ∧ V.int ((1 * numL z.cps.toList : Nat) : Int) ∈ ((shadeL ts).map fun (n : Nat) => V.int n)
theorem sd_of {m : Nat} {ts : List Str} (h : ts.length = m) (h1 : 1 ≤ m) (h3 : m ≤ 3) : Sd m ts := by
  subst h
  match ts, h1, h3 with
  | [a], _, _ =>
    refine ⟨rfl, by show 3 ≤ 20; decide, rfl, ⟨a, rfl, List.mem_cons_self, ?_⟩, ⟨a, rfl, List.mem_of_getElem? (i := 1) rfl, List.mem_of_getElem? (i := 2) rfl⟩⟩
    show [V.int ((1 * 29 ^ a.length : Nat) : Int), V.int ((1 * numL a.cps.toList : Nat) : Int)] = _
    rw [Nat.one_mul, Nat.one_mul]
  | [a, b], _, _ =>
    refine ⟨rfl, by show 8 ≤ 20; decide, rfl, ⟨b, rfl, List.mem_cons_of_mem _ List.mem_cons_self, ?_⟩, ⟨a, rfl, List.mem_of_getElem? (i := 3) rfl, List.mem_of_getElem? (i := 6) rfl⟩⟩
    show [V.int ((1 * 29 ^ b.length : Nat) : Int), V.int ((1 * numL b.cps.toList : Nat) : Int)] = _
    rw [Nat.one_mul, Nat.one_mul]
  | [a, b, c], _, _ =>
    refine ⟨rfl, by show 20 ≤ 20; decide, rfl, ⟨c, rfl, List.mem_cons_of_mem _ (List.mem_cons_of_mem _ List.mem_cons_self), ?_⟩, ⟨a, rfl, List.mem_of_getElem? (i := 8) rfl, List.mem_of_getElem? (i := 16) rfl⟩⟩
    show [V.int ((1 * 29 ^ c.length : Nat) : Int), V.int ((1 * numL c.cps.toList : Nat) : Int)] = _
    rw [Nat.one_mul, Nat.one_mul]
  | [], h, _ => exact absurd h (by simp)
  | _ :: _ :: _ :: _ :: _, _, h => exact absurd h (by simp)

def spLaw (K : PySem.W.Frag) : Sp := fun vs H Q _ => ∃ (a : Addr) (ns : List Int), vs = [.ref a] ∧ SqL K H a (ns.map V.int) ∧ ∀ H', Q (.bl true) H'
def nLaw8 : List Str := ["script", "pen", "turn", "many", "texts", "situation", "found", "alone"]
theorem sc_law : FnScope nLaw8 ["script"] (fnScope st_law_) := fnScope_by (by decide +kernel)
theorem same_no (z : Str) : (!decide (V.str z = V.str z)) = false := by
  rw [decide_eq_true rfl]
  rfl
theorem same_int (i : Int) : (!decide (V.int i = V.int i)) = false := by
  rw [decide_eq_true rfl]
  rfl
theorem sl_tupAK2 {X : Cx} (K : PySem.W.Frag) (h : X.K = K := by rfl) : SlR X (rSlA K) := by
  rw [← h]
  exact sl_tupA
theorem inV_mem {n : Int} {xs : List V} (h : V.int n ∈ xs) : (!inV (.int n) xs) = false := by
  have e : inV (.int n) xs = true := by
    unfold inV
    refine List.any_eq_true.mpr ⟨.int n, h, ?_⟩
    show (n == n) = true
    exact beq_self_eq_true n
  rw [e]
  rfl
theorem flat_nats (l : List Nat) : (l.map fun (n : Nat) => V.int n).all flatV = true := by
  rw [List.all_eq_true]
  intro x hx
  obtain ⟨n, _, rfl⟩ := List.mem_map.mp hx
  rfl
theorem mem3 {i : Nat} {x : V} (h : ([V.int 1, .int 2, .int 3] : List V)[i]? = some x) : ∃ m : Nat, x = .int m ∧ 1 ≤ m ∧ m ≤ 3 := by
  have q := List.mem_of_getElem? h
  have e : x = .int 1 ∨ x = .int 2 ∨ x = .int 3 := by simpa using q
  rcases e with rfl | rfl | rfl
  · exact ⟨1, rfl, by decide, by decide⟩
  · exact ⟨2, rfl, by decide, by decide⟩
  · exact ⟨3, rfl, by decide, by decide⟩
section
variable {P : Program} {w : World} {K : PySem.W.Frag} {mg : Str → Option Value} {base : Heap} {f : Addr} {fd : FuncData}
theorem fn_law (F : C8.Fun K "law" "law" st_law_ f fd) (B : BN mg) (Bt : mg "tuple" = none) (Br : mg "repr" = none) (Bx : mg "max" = none) (Bn : mg "min" = none) (Cpen : Cal P w K mg base 1 "_law_pen" (spPen K) []) (Cd : Cal P w K mg base 2 "_law_draw" spDraw [])
    (Ctx : Cal P w K mg base 5 "_law_texts" spTexts []) (Csd : Cal P w K mg base 2 "_law_shade" spShade []) (Cn : Cal P w K mg base 3 "number_of" spNumOf []) (Cs : Cal P w K mg base 3 "size_of" spSizeOf []) (Ch : Cal P w K mg base 4 "shadow" spShadow [])
    (Cr : CalG P w K mg base 5 "_law_hand_right" spTrue) : FnG P w K mg base 6 f fd ["script"] (spLaw K) := by
  refine fnG_by F sc_law (fun vs H Q E h => ?_) (fun cdv A outer s H vs Q E gu hr h => ?_)
  · obtain ⟨a, ns, rfl, _⟩ := h
    rfl
  · obtain ⟨a, ns, rfl, hS, k⟩ := h
    refine ⟨_, pss_cons (ps_set (i := 1) sc_law.nd rfl (Or.inl rfl) (pe_c Cpen hr (by decide) (by rfl) (pa_cons (pv 0) pa_nil)))
      (pss_cons (ps_for PassesOwn.never rfl (pi_range1 rfl B.range (pa_cons (pe_callB (call_max2 rfl) (by rfl) Bx (by decide +kernel) (pa_cons pe_int (pa_cons (pe_callB (call_min2 rfl) (by rfl) Bn (by decide +kernel) (pa_cons pe_int (pa_cons (pe_callB call_len_seq (by rfl) B.len PySem.boot_len (pa_cons (pv 0) pa_nil)) pa_nil))) pa_nil))) pa_nil)) (pg_name (i := 2) sc_law.nd rfl (Or.inl rfl))
        (pss_one (ps_for PassesOwn.never rfl (pi_tup (pe_tup (pa_cons pe_int (pa_cons pe_int (pa_cons pe_int pa_nil))))) (pg_name (i := 3) sc_law.nd rfl (Or.inl rfl))
          (pss_cons (ps_set (i := 4) sc_law.nd rfl (Or.inl rfl) (pe_c Ctx hr (by decide) (by rfl) (pa_cons (pv 1) (pa_cons (pv 3) pa_nil))))
          (pss_cons (ps_set (i := 5) sc_law.nd rfl (Or.inl rfl) (pe_tup (pa_cons (pe_c Cd hr (by decide) (by rfl) (pa_cons (pv 1) (pa_cons pe_int pa_nil))) (pa_cons (pv 4) pa_nil))))
          (pss_cons (ps_set (i := 6) sc_law.nd rfl (Or.inl rfl) (pe_c Ch hr (by decide) (by rfl) (pa_cons (pv 5) pa_nil)))
          (pss_cons (ps_if (PW.pt (pw_or (pt_cmpR op_ne (pe_callB (call_reprS gu hr.units) (by rfl) Br (by decide +kernel) (pa_cons (pv 6) pa_nil)) (pe_callB (call_reprS gu hr.units) (by rfl) Br (by decide +kernel) (pa_cons (pe_callTy call_tuple_of (by rfl) Bt (by decide +kernel) (pa_cons (pe_c Csd hr (by decide) (by rfl) (pa_cons (pv 5) pa_nil)) pa_nil)) pa_nil)) (nomark _))
              (pw_or1 (pt_cmpR op_ne (pe_callB call_len_seq (by rfl) B.len PySem.boot_len (pa_cons (pv 6) pa_nil)) (pe_ix ix_list (pe_lst (pa_cons pe_int (pa_cons pe_int (pa_cons pe_int pa_nil)))) (pe_op op_sub (pv 3) pe_int) (fun _ _ => rfl)) (nomark _))))) (pss_one (ps_ret pe_bl)) pss_nil)
          (pss_cons (ps_if (PW.pt (pw_or (pt_cmpR (op_neD hr.units) (pe_c Ch hr (by decide) (by rfl) (pa_cons (pe_tup (pa_cons pe_int (pa_cons (pv 4) pa_nil))) pa_nil)) (pv 6) (nomark _))
              (pw_or (pt_cmpR (op_neD hr.units) (pe_ix ix_tup (pv 5) pe_int (fun _ _ => rfl)) (pv 4) (nomark _)) (pw_or1 (pt_cmpR op_ne (pe_ix ix_tup (pv 6) pe_int (fun _ _ => rfl)) pe_int (nomark _)))))) (pss_one (ps_ret pe_bl)) pss_nil)
          (pss_cons (ps_if (pt_cmpR (op_neD hr.units) (pe_slice sl_tupA (pv 6) (po_some pe_int) (po_some pe_int)) (pe_tup (pa_cons (pe_c Cs hr (by decide) (by rfl) (pa_cons (pe_ix ix_tup (pv 4) (pe_un un_neg pe_int) (fun _ _ => rfl)) pa_nil)) (pa_cons (pe_c Cn hr (by decide) (by rfl) (pa_cons (pe_ix ix_tup (pv 4) (pe_un un_neg pe_int) (fun _ _ => rfl)) pa_nil)) pa_nil))) (nomark _)) (pss_one (ps_ret pe_bl)) pss_nil)
          (pss_cons (ps_set (i := 7) sc_law.nd rfl (Or.inl rfl) (pe_c Ch hr (by decide) (by rfl) (pa_cons (pe_tup (pa_cons pe_int (pa_cons (pe_slice sl_tupA (pv 4) po_none (po_some pe_int)) pa_nil))) pa_nil)))
          (pss_one (ps_if (PW.pt (pw_or (pt_cmpR op_notIn_seq (pe_ix ix_tup (pv 7) pe_int (fun _ _ => rfl)) (pv 6) (by with_unfolding_all rfl)) (pw_or1 (pt_cmpR op_notIn_seq (pe_ix ix_tup (pv 7) pe_int (fun _ _ => rfl)) (pv 6) (by with_unfolding_all rfl))))) (pss_one (ps_ret pe_bl)) pss_nil))))))))))))
      (pss_one (ps_ret (pe_g0 Cr gu hr (by decide) (by rfl))))), ?_⟩
    refine ⟨_, rfl, a, ns, rfl, hS, fun H1 p c s1 hP p0 => ?_⟩
    have hS1 : SqL K H1 a (ns.map V.int) := by
      rcases hS with (z | ⟨o, z⟩) | z
      · exact .inl (.inl (s1 _ _ z))
      · exact .inl (.inr ⟨o, s1 _ _ z⟩)
      · exact .inr z
    refine ⟨_, rfl, a, _, rfl, .inl hS1, _, _, rfl, _, _, rfl, _, rfl, ?_, ?_, for_range (fun i σ H' => (∃ v2 v3 v4 v5 v6 v7 : Option V, σ = [some (.ref a), some (.ref p), v2, v3, v4, v5, v6, v7]) ∧ Pen H' p c) ⟨⟨_, _, _, _, _, _, rfl⟩, hP⟩ ?_ ?_⟩
    · split <;> split <;> omega
    · split <;> split <;> omega
    · rintro i σ H2 hi ⟨⟨v2, v3, v4, v5, v6, v7, rfl⟩, hP2⟩
      refine ⟨(by show 3 ≤ sizeLine; decide), fun t3 g3 => ⟨t3, rfl, ⟨_, SqT.of upd_same⟩, ?_⟩⟩
      have nt : t3 ≠ p := hP2.ne g3
      refine for_tup (K := K) (a := t3) (xs := [V.int 1, .int 2, .int 3]) (fun j σ H' => (∃ v3 v4 v5 v6 v7 : Option V, σ = [some (.ref a), some (.ref p), some (.int (0 + (i : Int))), v3, v4, v5, v6, v7]) ∧ Pen H' p c ∧ H' t3 = some (.tup [V.int 1, .int 2, .int 3])) ⟨⟨_, _, _, _, _, rfl⟩, hP2.new g3, upd_same⟩ (fun j σ H' _ h => SqT.of h.2.2) ?_ ?_
      · rintro j x σ H3 hj ⟨⟨w3, w4, w5, w6, w7, rfl⟩, hP3, hT⟩
        obtain ⟨m, rfl, m1, m3⟩ := mem3 hj
        refine ⟨_, rfl, _, rfl, p, c, m, rfl, hP3, by omega, fun ts t H4 tl tx k4 ht => ?_⟩
        have low : ∀ z ∈ ts, lowL z.cps.toList := fun z hz => (tx z hz).low
        have t90 := tot30 tx (by omega)
        have sd := sd_of tl m1 m3
        have hT4 := k4.but _ _ nt hT
        refine ⟨_, rfl, p, c, 12, rfl, k4.pen, by decide, by decide, fun d H5 d0 d1 k5 => ⟨_, rfl, (by show 2 ≤ sizeLine; decide), fun q gq => ?_⟩⟩
        have ht5 := k5.tk k4.pen _ _ ht
        have hT5 := k5.but _ _ nt hT4
        have sq := same_new (o := .tup [V.int d, .ref t]) gq
        have hq : upd H5 q (.tup [V.int d, .ref t]) q = some (.tup [V.int d, .ref t]) := upd_same
        have hP6 := k5.pen.same sq
        have ht6 := sq _ _ ht5
        have hT6 := sq _ _ hT5
        generalize upd H5 q (.tup [V.int d, .ref t]) = H6 at sq hq hP6 ht6 hT6 ⊢
        have tq : Tp H6 (.ref q) (.tuple [.int d, .tuple (ts.map .str)]) := .tup hq (.cons (.int _) (.cons (.tup ht6 (str_tp ts)) .nil))
        refine ⟨_, rfl, _, _, ts, rfl, tq, low, by omega, by omega, by omega, fun fo H7 s7 hf => ?_⟩
        have shw := shw_ints sd.l20 (shade_lt low (by omega))
        -- as the law tells it
        refine ⟨_, rfl, _, _, rfl, .tup (SqT.of hf) (dp_nats _), shw, _, rfl, _, _, ts, rfl, tq.mono (Same.tk s7), low, by omega, by omega, fun u H8 s8 hu => ⟨u, _, rfl, .inl ⟨SqL.of hu, fun v gv => ⟨_, _, rfl, .tup (SqT.of upd_same) (dp_nats _), shw, rfl, _, rfl, iteF' (same_no _) ?_⟩⟩⟩⟩
        have s9 := Same.trans s8 (same_new (o := .tup ((shadeL ts).map fun (n : Nat) => V.int n)) gv)
        generalize upd H8 v (.tup ((shadeL ts).map fun (n : Nat) => V.int n)) = H9 at s9 ⊢
        refine ⟨_, rfl, fo, _, rfl, .inr (SqT.of (s9 _ _ hf)), (by show 3 ≤ sizeLine; decide), fun l gl => ⟨_, rfl, _, _, rfl, rfl, l, _, _, _, rfl, rfl, SqL.of upd_same, sd.len, rfl, _, rfl, ?_⟩⟩
        rw [List.length_map]
        refine iteF' (same_int _) ?_
        have s10 := Same.trans s9 (same_new (o := .lst [V.int 3, .int 8, .int 20]) gl)
        generalize upd H9 l (.lst [V.int 3, .int 8, .int 20]) = H10 at s10 ⊢
        -- the same shadow
        refine ⟨_, rfl, (by show 2 ≤ sizeLine; decide), fun q2 g2 => ?_⟩
        have s11 := Same.trans s10 (same_new (o := .tup [V.int 0, .ref t]) g2)
        have hq2 : upd H10 q2 (.tup [V.int 0, .ref t]) q2 = some (.tup [V.int 0, .ref t]) := upd_same
        generalize upd H10 q2 (.tup [V.int 0, .ref t]) = H11 at s11 hq2 ⊢
        have s611 := Same.trans s7 s11
        refine ⟨_, _, ts, rfl, .tup hq2 (.cons (.int _) (.cons (.tup (s611 _ _ ht6) (str_tp ts)) .nil)), low, by omega, by omega, by omega, fun fo2 H12 s12 hf2 => ⟨_, rfl, intsD (shadeL ts), intsD (shadeL ts), .tup (SqT.of hf2) (dp_nats _), .tup (SqT.of ((Same.trans s11 s12) _ _ hf)) (dp_nats _), shap_ints _, shap_ints _, _, rfl, iteF' (ne_ints _) ?_⟩⟩
        have s612 := Same.trans s611 s12
        refine ⟨_, rfl, q, _, _, _, rfl, rfl, SqT.of (s612 _ _ hq), atI_nat (j := 1) rfl, _, rfl, .tuple (ts.map .str), .tuple (ts.map .str), .tup (SqT.of (s612 _ _ ht6)) (str_tp (H := H12) ts).dp, .tup (SqT.of (s612 _ _ ht6)) (str_tp (H := H12) ts).dp, shap_strsT tx, shap_strsT tx, _, rfl, iteF' (ne_strs _) ?_⟩
        have s712 := Same.trans s11 s12
        refine ⟨_, rfl, fo, _, _, _, rfl, rfl, SqT.of (s712 _ _ hf), atI_nat (j := 0) sd.one, rfl, _, rfl, iteF' (same_int _) ?_⟩
        -- the last text
        obtain ⟨z, hz, zm, cut⟩ := sd.last
        have zl := low z zm
        have z30 := (tx z zm).len
        have zn := numL_lt zl
        refine ⟨_, rfl, _, rfl, _, rfl, fo, _, rfl, SqT.of (s712 _ _ hf), fun wh => ?_, fun _ pc gpc => ?_⟩
        · exfalso
          have e := wh.1
          have n1 : 1 ≤ ((shadeL ts).map fun (n : Nat) => V.int n).length := by
            have := (List.getElem?_eq_some_iff.mp sd.one).1
            omega
          have e2 : HT.sIx ((shadeL ts).map fun (n : Nat) => V.int n).length 0 (some ((1 : Nat) : Int)) = 0 := e
          rw [HT.sIx_nat] at e2
          omega
        have s13 := Same.trans s12 (same_new (o := .tup (cutV ((shadeL ts).map fun (n : Nat) => V.int n) (some 1) (some 3))) gpc)
        have hpc : upd H12 pc (.tup (cutV ((shadeL ts).map fun (n : Nat) => V.int n) (some 1) (some 3))) pc = some (.tup (cutV ((shadeL ts).map fun (n : Nat) => V.int n) (some 1) (some 3))) := upd_same
        have n3 : 3 ≤ ((shadeL ts).map fun (n : Nat) => V.int n).length := by
          have e := congrArg List.length cut
          rw [List.length_take, List.length_drop] at e
          have e2 : [V.int (29 ^ z.length : Nat), V.int (numL z.cps.toList : Nat)].length = 2 := rfl
          rw [e2] at e
          omega
        have ecut : cutV ((shadeL ts).map fun (n : Nat) => V.int n) (some 1) (some 3) = [V.int (29 ^ z.length : Nat), V.int (numL z.cps.toList : Nat)] := by
          show (((shadeL ts).map fun (n : Nat) => V.int n).drop (HT.sIx _ 0 (some ((1 : Nat) : Int)))).take (HT.sIx _ _ (some ((3 : Nat) : Int)) - HT.sIx _ 0 (some ((1 : Nat) : Int))) = _
          rw [HT.sIx_nat, HT.sIx_nat, Nat.min_eq_left (show 1 ≤ _ by omega), Nat.min_eq_left n3]
          exact cut
        generalize upd H12 pc (.tup (cutV ((shadeL ts).map fun (n : Nat) => V.int n) (some 1) (some 3))) = H13 at s13 hpc ⊢
        rw [ecut] at hpc
        have s613 := Same.trans s611 s13
        refine ⟨_, rfl, _, rfl, t, _, _, _, rfl, rfl, SqT.of (s613 _ _ ht6), hz, z, rfl, zl, by omega, fun H14 s14 => ⟨_, rfl, _, rfl, t, _, _, _, rfl, rfl, SqT.of ((Same.trans s613 s14) _ _ ht6), hz, z, rfl, zl, by omega, fun H15 s15 => ⟨(by show 2 ≤ sizeLine; decide), fun q3 g3' => ?_⟩⟩⟩
        have s1316 := Same.trans (Same.trans s14 s15) (same_new (o := .tup [V.int (29 ^ z.length : Nat), .int (numL z.cps.toList : Nat)]) g3')
        have hq3 : upd H15 q3 (.tup [V.int (29 ^ z.length : Nat), .int (numL z.cps.toList : Nat)]) q3 = some (.tup [V.int (29 ^ z.length : Nat), .int (numL z.cps.toList : Nat)]) := upd_same
        generalize upd H15 q3 (.tup [V.int (29 ^ z.length : Nat), .int (numL z.cps.toList : Nat)]) = H16 at s1316 hq3 ⊢
        refine ⟨intsD [29 ^ z.length, numL z.cps.toList], intsD [29 ^ z.length, numL z.cps.toList], .tup (SqT.of (s1316 _ _ hpc)) (dp_nats [29 ^ z.length, numL z.cps.toList]), .tup (SqT.of hq3) (dp_nats [29 ^ z.length, numL z.cps.toList]), shap_ints _, shap_ints _, _, rfl, iteF' (ne_ints _) ?_⟩
        have s616 := Same.trans s613 s1316
        -- the first text alone
        obtain ⟨y, hy, in1, in2⟩ := sd.first
        have ym : y ∈ ts := by
          have q := List.mem_of_mem_take (show y ∈ ts.take 1 by rw [hy]; exact List.mem_cons_self)
          exact q
        have y30 := (tx y ym).len
        refine ⟨_, rfl, _, rfl, ?_⟩
        refine sl_take (ds := ts.map .str) (k := 1) (.tup (s616 _ _ ht6) (str_tp ts)) (by rw [List.length_map]; omega) fun v1 H17 s17 tv1 => ⟨(by show 2 ≤ sizeLine; decide), fun q4 g4 => ?_⟩
        have s18 := Same.trans s17 (same_new (o := .tup [V.int 0, v1]) g4)
        have tv2 : Tp (upd H17 q4 (.tup [V.int 0, v1])) (.ref q4) (.tuple [.int 0, .tuple (([y] : List Str).map .str)]) := by
          refine .tup upd_same (.cons (.int _) (.cons ?_ .nil))
          have e : (ts.map PyData.str).take 1 = ([y] : List Str).map .str := by rw [← List.map_take, hy]
          rw [← e]
          exact tv1.mono (tk_new g4)
        generalize upd H17 q4 (.tup [V.int 0, v1]) = H18 at s18 tv2 ⊢
        have ytot : totL [y] ≤ 30 := by
          unfold totL
          rw [List.map_cons, List.map_nil, List.sum_cons, List.sum_nil]
          omega
        refine ⟨_, _, [y], rfl, tv2, fun z' hz' => by rw [List.mem_singleton.mp hz']; exact low y ym, Nat.le_refl 1, (by show 1 ≤ 3; decide), by omega, fun al H19 s19 hal => ?_⟩
        have s1219 := Same.trans (Same.trans (Same.trans s13 s1316) s18) s19
        have hf19 := (Same.trans s11 s1219) _ _ hf
        refine ⟨_, rfl, al, _, _, _, rfl, rfl, SqT.of hal, atI_nat (j := 2) rfl, _, rfl, fo, _, rfl, .inr (SqT.of hf19), rfl, flat_nats _, _, rfl, iteF' (inV_mem in2) ?_⟩
        refine ⟨_, rfl, al, _, _, _, rfl, rfl, SqT.of hal, atI_nat (j := 1) rfl, _, rfl, fo, _, rfl, .inr (SqT.of hf19), rfl, flat_nats _, _, rfl, iteF' (inV_mem in1) ?_⟩
        have s619 := Same.trans s611 s1219
        exact ⟨⟨_, _, _, _, _, rfl⟩, hP6.same s619, s619 _ _ hT6⟩
      · rintro σ H3 ⟨⟨w3, w4, w5, w6, w7, rfl⟩, hP3, hT⟩
        exact ⟨⟨_, _, _, _, _, _, rfl⟩, hP3⟩
    · rintro σ H2 ⟨⟨v2, v3, v4, v5, v6, v7, rfl⟩, hP2⟩
      exact ⟨rfl, fun H3 s3 => k H3⟩
end

/-! ### what the top has written, the head -/
theorem all_mk {l : PySem.W.OpenLaw} {w : World} {K : PySem.W.Frag} {h : Heap} {mg : Str → Option Value} {fa f0 f1 f2 f3 f4 f5 f6 f7 f8 f9 f10 f11 f12 f13 f14 f15 : Addr} (X : K.In h) (G : h.Ns mainGlobals mg) (named : mg "law" = some (.ref fa))
    {od0 an0 od1 an1 od2 an2 od3 an3 od4 an4 od5 an5 od6 an6 od7 an7 od8 an8 od9 an9 od10 an10 od11 an11 od12 an12 od13 an13 od14 an14 od15 an15 : Option Addr} {sl0 sl1 sl2 sl3 sl4 sl5 sl6 sl7 sl8 sl9 sl10 sl11 sl12 sl13 sl14 sl15 : Array (Option Value)} {oc0 kV0 dc0 pm0 cd0 ct0 oc1 kV1 dc1 pm1 cd1 ct1 oc2 kV2 dc2 pm2 cd2 ct2 oc3 kV3 dc3 pm3 cd3 ct3 oc4 kV4 dc4 pm4 cd4 ct4 oc5 kV5 dc5 pm5 cd5 ct5 oc6 kV6 dc6 pm6 cd6 ct6 oc7 kV7 dc7 pm7 cd7 ct7 oc8 kV8 dc8 pm8 cd8 ct8 oc9 kV9 dc9 pm9 cd9 ct9 oc10 kV10 dc10 pm10 cd10 ct10 oc11 kV11 dc11 pm11 cd11 ct11 oc12 kV12 dc12 pm12 cd12 ct12 oc13 kV13 dc13 pm13 cd13 ct13 oc14 kV14 dc14 pm14 cd14 ct14 oc15 kV15 dc15 pm15 cd15 ct15 : Value}
    (a0 : PySem.W.nsIn K mainGlobals "number_of" = some (some (.ref f0))) (l0 : K.lookup f0 = some ⟨oc0, od0, .func (PySem.W.fnOf "number_of" "number_of" (C8.fnArgs st_number_of_) (fnBody st_number_of_) (fnScope st_number_of_) .none kV0 dc0 pm0 an0 cd0 ct0), sl0⟩) (c0 : PySem.W.codeIn K cd0 "number_of" = true) (k0 : PySem.W.keepIn K (.ref f0) = true)
    (a1 : PySem.W.nsIn K mainGlobals "size_of" = some (some (.ref f1))) (l1 : K.lookup f1 = some ⟨oc1, od1, .func (PySem.W.fnOf "size_of" "size_of" (C8.fnArgs st_size_of_) (fnBody st_size_of_) (fnScope st_size_of_) .none kV1 dc1 pm1 an1 cd1 ct1), sl1⟩) (c1 : PySem.W.codeIn K cd1 "size_of" = true) (k1 : PySem.W.keepIn K (.ref f1) = true)
    (a2 : PySem.W.nsIn K mainGlobals "shadow" = some (some (.ref f2))) (l2 : K.lookup f2 = some ⟨oc2, od2, .func (PySem.W.fnOf "shadow" "shadow" (C8.fnArgs st_shadow_) (fnBody st_shadow_) (fnScope st_shadow_) .none kV2 dc2 pm2 an2 cd2 ct2), sl2⟩) (c2 : PySem.W.codeIn K cd2 "shadow" = true) (k2 : PySem.W.keepIn K (.ref f2) = true)
    (a3 : PySem.W.nsIn K mainGlobals "power_of" = some (some (.ref f3))) (l3 : K.lookup f3 = some ⟨oc3, od3, .func (PySem.W.fnOf "power_of" "power_of" (C8.fnArgs st_power_of_) (fnBody st_power_of_) (fnScope st_power_of_) .none kV3 dc3 pm3 an3 cd3 ct3), sl3⟩) (c3 : PySem.W.codeIn K cd3 "power_of" = true) (k3 : PySem.W.keepIn K (.ref f3) = true)
    (a4 : PySem.W.nsIn K mainGlobals "measures_of" = some (some (.ref f4))) (l4 : K.lookup f4 = some ⟨oc4, od4, .func (PySem.W.fnOf "measures_of" "measures_of" (C8.fnArgs st_measures_of_) (fnBody st_measures_of_) (fnScope st_measures_of_) .none kV4 dc4 pm4 an4 cd4 ct4), sl4⟩) (c4 : PySem.W.codeIn K cd4 "measures_of" = true) (k4 : PySem.W.keepIn K (.ref f4) = true)
    (a5 : PySem.W.nsIn K mainGlobals "shadow_of" = some (some (.ref f5))) (l5 : K.lookup f5 = some ⟨oc5, od5, .func (PySem.W.fnOf "shadow_of" "shadow_of" (C8.fnArgs st_shadow_of_) (fnBody st_shadow_of_) (fnScope st_shadow_of_) .none kV5 dc5 pm5 an5 cd5 ct5), sl5⟩) (c5 : PySem.W.codeIn K cd5 "shadow_of" = true) (k5 : PySem.W.keepIn K (.ref f5) = true)
    (a6 : PySem.W.nsIn K mainGlobals "_law_pen" = some (some (.ref f6))) (l6 : K.lookup f6 = some ⟨oc6, od6, .func (PySem.W.fnOf "_law_pen" "_law_pen" (C8.fnArgs st_law_pen) (fnBody st_law_pen) (fnScope st_law_pen) .none kV6 dc6 pm6 an6 cd6 ct6), sl6⟩) (c6 : PySem.W.codeIn K cd6 "_law_pen" = true) (k6 : PySem.W.keepIn K (.ref f6) = true)
    (a7 : PySem.W.nsIn K mainGlobals "_law_fresh" = some (some (.ref f7))) (l7 : K.lookup f7 = some ⟨oc7, od7, .func (PySem.W.fnOf "_law_fresh" "_law_fresh" (C8.fnArgs st_law_fresh) (fnBody st_law_fresh) (fnScope st_law_fresh) .none kV7 dc7 pm7 an7 cd7 ct7), sl7⟩) (c7 : PySem.W.codeIn K cd7 "_law_fresh" = true) (k7 : PySem.W.keepIn K (.ref f7) = true)
    (a8 : PySem.W.nsIn K mainGlobals "_law_draw" = some (some (.ref f8))) (l8 : K.lookup f8 = some ⟨oc8, od8, .func (PySem.W.fnOf "_law_draw" "_law_draw" (C8.fnArgs st_law_draw) (fnBody st_law_draw) (fnScope st_law_draw) .none kV8 dc8 pm8 an8 cd8 ct8), sl8⟩) (c8 : PySem.W.codeIn K cd8 "_law_draw" = true) (k8 : PySem.W.keepIn K (.ref f8) = true)
    (a9 : PySem.W.nsIn K mainGlobals "_law_one_of" = some (some (.ref f9))) (l9 : K.lookup f9 = some ⟨oc9, od9, .func (PySem.W.fnOf "_law_one_of" "_law_one_of" (C8.fnArgs st_law_one_of) (fnBody st_law_one_of) (fnScope st_law_one_of) .none kV9 dc9 pm9 an9 cd9 ct9), sl9⟩) (c9 : PySem.W.codeIn K cd9 "_law_one_of" = true) (k9 : PySem.W.keepIn K (.ref f9) = true)
    (a10 : PySem.W.nsIn K mainGlobals "_law_piece" = some (some (.ref f10))) (l10 : K.lookup f10 = some ⟨oc10, od10, .func (PySem.W.fnOf "_law_piece" "_law_piece" (C8.fnArgs st_law_piece) (fnBody st_law_piece) (fnScope st_law_piece) .none kV10 dc10 pm10 an10 cd10 ct10), sl10⟩) (c10 : PySem.W.codeIn K cd10 "_law_piece" = true) (k10 : PySem.W.keepIn K (.ref f10) = true)
    (a11 : PySem.W.nsIn K mainGlobals "_law_numbered" = some (some (.ref f11))) (l11 : K.lookup f11 = some ⟨oc11, od11, .func (PySem.W.fnOf "_law_numbered" "_law_numbered" (C8.fnArgs st_law_numbered) (fnBody st_law_numbered) (fnScope st_law_numbered) .none kV11 dc11 pm11 an11 cd11 ct11), sl11⟩) (c11 : PySem.W.codeIn K cd11 "_law_numbered" = true) (k11 : PySem.W.keepIn K (.ref f11) = true)
    (a12 : PySem.W.nsIn K mainGlobals "_law_shade" = some (some (.ref f12))) (l12 : K.lookup f12 = some ⟨oc12, od12, .func (PySem.W.fnOf "_law_shade" "_law_shade" (C8.fnArgs st_law_shade) (fnBody st_law_shade) (fnScope st_law_shade) .none kV12 dc12 pm12 an12 cd12 ct12), sl12⟩) (c12 : PySem.W.codeIn K cd12 "_law_shade" = true) (k12 : PySem.W.keepIn K (.ref f12) = true)
    (a13 : PySem.W.nsIn K mainGlobals "_law_texts" = some (some (.ref f13))) (l13 : K.lookup f13 = some ⟨oc13, od13, .func (PySem.W.fnOf "_law_texts" "_law_texts" (C8.fnArgs st_law_texts) (fnBody st_law_texts) (fnScope st_law_texts) .none kV13 dc13 pm13 an13 cd13 ct13), sl13⟩) (c13 : PySem.W.codeIn K cd13 "_law_texts" = true) (k13 : PySem.W.keepIn K (.ref f13) = true)
    (a14 : PySem.W.nsIn K mainGlobals "_law_hand_right" = some (some (.ref f14))) (l14 : K.lookup f14 = some ⟨oc14, od14, .func (PySem.W.fnOf "_law_hand_right" "_law_hand_right" (C8.fnArgs st_law_hand_right) (fnBody st_law_hand_right) (fnScope st_law_hand_right) .none kV14 dc14 pm14 an14 cd14 ct14), sl14⟩) (c14 : PySem.W.codeIn K cd14 "_law_hand_right" = true) (k14 : PySem.W.keepIn K (.ref f14) = true)
    (a15 : PySem.W.nsIn K mainGlobals "law" = some (some (.ref f15))) (l15 : K.lookup f15 = some ⟨oc15, od15, .func (PySem.W.fnOf "law" "law" (C8.fnArgs st_law_) (fnBody st_law_) (fnScope st_law_) .none kV15 dc15 pm15 an15 cd15 ct15), sl15⟩) (c15 : PySem.W.codeIn K cd15 "law" = true) (k15 : PySem.W.keepIn K (.ref f15) = true)
    {t_BASE : Tok} (s_BASE : PySem.W.nsIn K mainGlobals "BASE" = some (some (.int 29 t_BASE)))
    (z_list : PySem.W.nsIn K mainGlobals "list" = some none)
    (z_int : PySem.W.nsIn K mainGlobals "int" = some none)
    (z_len : PySem.W.nsIn K mainGlobals "len" = some none)
    (z_range : PySem.W.nsIn K mainGlobals "range" = some none)
    (z_ord : PySem.W.nsIn K mainGlobals "ord" = some none)
    (z_repr : PySem.W.nsIn K mainGlobals "repr" = some none)
    (z_max : PySem.W.nsIn K mainGlobals "max" = some none)
    (z_min : PySem.W.nsIn K mainGlobals "min" = some none)
    (z_tuple : PySem.W.nsIn K mainGlobals "tuple" = some none) :
    ∃ fd : FuncData, (∀ (s : Shared) (u : Value), BindsTo s fd ⟨[u], []⟩ [("script", u)]) ∧ ∀ base : Heap, K.In base → base.Ns mainGlobals mg → FnG l.prog w K mg base 6 fa fd ["script"] (spLaw K) := by
  have e := named.symm.trans (PySem.W.mg_of X G a15)
  cases e
  have F0 : C8.Fun K "number_of" "number_of" st_number_of_ f0 _ := ⟨⟨_, _, _, _, _, _, _, _, _, _, rfl, l0, c0⟩⟩
  have Dnumber_of : C8.Def K mg "number_of" st_number_of_ f0 _ := ⟨F0, PySem.W.mg_of X G a0, k0⟩
  have bnumber_of := F0.binds rfl (ps := ["text"]) fun _ _ _ _ _ _ us hl => match us, hl with | [_], _ => rfl
  have F1 : C8.Fun K "size_of" "size_of" st_size_of_ f1 _ := ⟨⟨_, _, _, _, _, _, _, _, _, _, rfl, l1, c1⟩⟩
  have Dsize_of : C8.Def K mg "size_of" st_size_of_ f1 _ := ⟨F1, PySem.W.mg_of X G a1, k1⟩
  have bsize_of := F1.binds rfl (ps := ["text"]) fun _ _ _ _ _ _ us hl => match us, hl with | [_], _ => rfl
  have F2 : C8.Fun K "shadow" "shadow" st_shadow_ f2 _ := ⟨⟨_, _, _, _, _, _, _, _, _, _, rfl, l2, c2⟩⟩
  have Dshadow : C8.Def K mg "shadow" st_shadow_ f2 _ := ⟨F2, PySem.W.mg_of X G a2, k2⟩
  have bshadow := F2.binds rfl (ps := ["situation"]) fun _ _ _ _ _ _ us hl => match us, hl with | [_], _ => rfl
  have F3 : C8.Fun K "power_of" "power_of" st_power_of_ f3 _ := ⟨⟨_, _, _, _, _, _, _, _, _, _, rfl, l3, c3⟩⟩
  have Dpower_of : C8.Def K mg "power_of" st_power_of_ f3 _ := ⟨F3, PySem.W.mg_of X G a3, k3⟩
  have bpower_of := F3.binds rfl (ps := ["base", "many"]) fun _ _ _ _ _ _ us hl => match us, hl with | [_, _], _ => rfl
  have F4 : C8.Fun K "measures_of" "measures_of" st_measures_of_ f4 _ := ⟨⟨_, _, _, _, _, _, _, _, _, _, rfl, l4, c4⟩⟩
  have Dmeasures_of : C8.Def K mg "measures_of" st_measures_of_ f4 _ := ⟨F4, PySem.W.mg_of X G a4, k4⟩
  have bmeasures_of := F4.binds rfl (ps := ["texts"]) fun _ _ _ _ _ _ us hl => match us, hl with | [_], _ => rfl
  have F5 : C8.Fun K "shadow_of" "shadow_of" st_shadow_of_ f5 _ := ⟨⟨_, _, _, _, _, _, _, _, _, _, rfl, l5, c5⟩⟩
  have Dshadow_of : C8.Def K mg "shadow_of" st_shadow_of_ f5 _ := ⟨F5, PySem.W.mg_of X G a5, k5⟩
  have bshadow_of := F5.binds rfl (ps := ["measures"]) fun _ _ _ _ _ _ us hl => match us, hl with | [_], _ => rfl
  have F6 : C8.Fun K "_law_pen" "_law_pen" st_law_pen f6 _ := ⟨⟨_, _, _, _, _, _, _, _, _, _, rfl, l6, c6⟩⟩
  have D_law_pen : C8.Def K mg "_law_pen" st_law_pen f6 _ := ⟨F6, PySem.W.mg_of X G a6, k6⟩
  have b_law_pen := F6.binds rfl (ps := ["script"]) fun _ _ _ _ _ _ us hl => match us, hl with | [_], _ => rfl
  have F7 : C8.Fun K "_law_fresh" "_law_fresh" st_law_fresh f7 _ := ⟨⟨_, _, _, _, _, _, _, _, _, _, rfl, l7, c7⟩⟩
  have D_law_fresh : C8.Def K mg "_law_fresh" st_law_fresh f7 _ := ⟨F7, PySem.W.mg_of X G a7, k7⟩
  have b_law_fresh := F7.binds rfl (ps := ["pen"]) fun _ _ _ _ _ _ us hl => match us, hl with | [_], _ => rfl
  have F8 : C8.Fun K "_law_draw" "_law_draw" st_law_draw f8 _ := ⟨⟨_, _, _, _, _, _, _, _, _, _, rfl, l8, c8⟩⟩
  have D_law_draw : C8.Def K mg "_law_draw" st_law_draw f8 _ := ⟨F8, PySem.W.mg_of X G a8, k8⟩
  have b_law_draw := F8.binds rfl (ps := ["pen", "bound"]) fun _ _ _ _ _ _ us hl => match us, hl with | [_, _], _ => rfl
  have F9 : C8.Fun K "_law_one_of" "_law_one_of" st_law_one_of f9 _ := ⟨⟨_, _, _, _, _, _, _, _, _, _, rfl, l9, c9⟩⟩
  have D_law_one_of : C8.Def K mg "_law_one_of" st_law_one_of f9 _ := ⟨F9, PySem.W.mg_of X G a9, k9⟩
  have b_law_one_of := F9.binds rfl (ps := ["pen", "rows"]) fun _ _ _ _ _ _ us hl => match us, hl with | [_, _], _ => rfl
  have F10 : C8.Fun K "_law_piece" "_law_piece" st_law_piece f10 _ := ⟨⟨_, _, _, _, _, _, _, _, _, _, rfl, l10, c10⟩⟩
  have D_law_piece : C8.Def K mg "_law_piece" st_law_piece f10 _ := ⟨F10, PySem.W.mg_of X G a10, k10⟩
  have b_law_piece := F10.binds rfl (ps := ["pen", "most"]) fun _ _ _ _ _ _ us hl => match us, hl with | [_, _], _ => rfl
  have F11 : C8.Fun K "_law_numbered" "_law_numbered" st_law_numbered f11 _ := ⟨⟨_, _, _, _, _, _, _, _, _, _, rfl, l11, c11⟩⟩
  have D_law_numbered : C8.Def K mg "_law_numbered" st_law_numbered f11 _ := ⟨F11, PySem.W.mg_of X G a11, k11⟩
  have b_law_numbered := F11.binds rfl (ps := ["text"]) fun _ _ _ _ _ _ us hl => match us, hl with | [_], _ => rfl
  have F12 : C8.Fun K "_law_shade" "_law_shade" st_law_shade f12 _ := ⟨⟨_, _, _, _, _, _, _, _, _, _, rfl, l12, c12⟩⟩
  have D_law_shade : C8.Def K mg "_law_shade" st_law_shade f12 _ := ⟨F12, PySem.W.mg_of X G a12, k12⟩
  have b_law_shade := F12.binds rfl (ps := ["situation"]) fun _ _ _ _ _ _ us hl => match us, hl with | [_], _ => rfl
  have F13 : C8.Fun K "_law_texts" "_law_texts" st_law_texts f13 _ := ⟨⟨_, _, _, _, _, _, _, _, _, _, rfl, l13, c13⟩⟩
  have D_law_texts : C8.Def K mg "_law_texts" st_law_texts f13 _ := ⟨F13, PySem.W.mg_of X G a13, k13⟩
  have b_law_texts := F13.binds rfl (ps := ["pen", "many"]) fun _ _ _ _ _ _ us hl => match us, hl with | [_, _], _ => rfl
  have F14 : C8.Fun K "_law_hand_right" "_law_hand_right" st_law_hand_right f14 _ := ⟨⟨_, _, _, _, _, _, _, _, _, _, rfl, l14, c14⟩⟩
  have D_law_hand_right : C8.Def K mg "_law_hand_right" st_law_hand_right f14 _ := ⟨F14, PySem.W.mg_of X G a14, k14⟩
  have b_law_hand_right := F14.binds rfl (ps := []) fun _ _ _ _ _ _ us hl => match us, hl with | [], _ => rfl
  have F15 : C8.Fun K "law" "law" st_law_ _ _ := ⟨⟨_, _, _, _, _, _, _, _, _, _, rfl, l15, c15⟩⟩
  have m_list := PySem.W.mg_none_of X G z_list
  have m_int := PySem.W.mg_none_of X G z_int
  have m_len := PySem.W.mg_none_of X G z_len
  have m_range := PySem.W.mg_none_of X G z_range
  have m_ord := PySem.W.mg_none_of X G z_ord
  have m_repr := PySem.W.mg_none_of X G z_repr
  have m_max := PySem.W.mg_none_of X G z_max
  have m_min := PySem.W.mg_none_of X G z_min
  have m_tuple := PySem.W.mg_none_of X G z_tuple
  have B : BN mg := { list := m_list, int := m_int, len := m_len, range := m_range }
  have N : NB mg := { base := ⟨_, PySem.W.mg_of X G s_BASE⟩ }
  refine ⟨PySem.W.fnOf "law" "law" (C8.fnArgs st_law_) (fnBody st_law_) (fnScope st_law_) .none kV15 dc15 pm15 an15 cd15 ct15, fun s u => .of_eq rfl, fun base _ _ => ?_⟩
  have cpen : Cal l.prog w K mg base 1 "_law_pen" (spPen K) [] := cal_pen D_law_pen b_law_pen B
  have cfresh : Cal l.prog w K mg base 1 "_law_fresh" spFresh [] := cal_fresh D_law_fresh b_law_fresh B
  have cdraw : Cal l.prog w K mg base 2 "_law_draw" spDraw [] := cal_draw D_law_draw b_law_draw B cfresh
  have cone : Cal l.prog w K mg base 3 "_law_one_of" (spOne K) [] := cal_one D_law_one_of b_law_one_of B cdraw
  have cpiece : Cal l.prog w K mg base 4 "_law_piece" spPiece [] := cal_piece D_law_piece b_law_piece B cdraw cone
  have cnum : Cal l.prog w K mg base 1 "_law_numbered" spNumbered [] := cal_numbered D_law_numbered b_law_numbered m_ord
  have cshade : Cal l.prog w K mg base 2 "_law_shade" spShade [] := cal_shade D_law_shade b_law_shade cnum
  have ctexts : Cal l.prog w K mg base 5 "_law_texts" spTexts [] := cal_texts D_law_texts b_law_texts B m_tuple cdraw cone cpiece
  have cpow : Cal l.prog w K mg base 1 "power_of" spPow29 [] := cal_power_of_ Dpower_of bpower_of
  have cn : Cal l.prog w K mg base 3 "number_of" spNumOf [] := cal_number_of_ 2 Dnumber_of bnumber_of N m_ord
  have cs : Cal l.prog w K mg base 3 "size_of" spSizeOf [] := cal_size_of_ 1 Dsize_of bsize_of N m_len cpow
  have cn1 : Cal l.prog w K mg base 1 "number_of" spNumOf [] := cal_number_of_ 0 Dnumber_of bnumber_of N m_ord
  have cs1 : Cal l.prog w K mg base 2 "size_of" spSizeOf [] := cal_size_of_ 0 Dsize_of bsize_of N m_len cpow
  have cme : Cal l.prog w K mg base 3 "measures_of" spMeasures [] := cal_measures_of_ Dmeasures_of bmeasures_of m_tuple cs1 cn1
  have cso : Cal l.prog w K mg base 1 "shadow_of" spShadowOf [] := cal_shadow_of_ Dshadow_of bshadow_of m_tuple
  have ch : Cal l.prog w K mg base 4 "shadow" spShadow [] := cal_shadow_ Dshadow bshadow cme cso
  have chr : CalG l.prog w K mg base 5 "_law_hand_right" spTrue := ⟨_, _, _, fn_hand F14 ch, PySem.W.mg_of X G a14, k14, b_law_hand_right⟩
  exact fn_law F15 B m_tuple m_repr m_max m_min cpen cdraw ctexts cshade cn cs ch chr
end Toy

open PySem PySem.W PyProof.Rows in
set_option maxRecDepth 100000 in
set_option maxHeartbeats 0 in
theorem PySem.Challenge.cw_fewtests_k08_shadows_told_holds : PySem.Challenge.rw_fewtests_k08_shadows_told.Holds := by
  w_on; o_law; k_head; (case hw => w_witness2)
  k_fill
  refine Toy.walkG (l := PySem.Challenge.rw_fewtests_k08_shadows_told) (k := 6) (sp := Toy.spLaw) (x := "script") rfl rfl ⟨rfl, by decide, by decide⟩ (fun w h Y => PySem.W.kIn_of Y) ?F (fun K H a ns few sq => ⟨a, ns, rfl, sq, fun _ => rfl⟩)
  case F =>
    intro w mg fa h KX G hmg
    refine' Toy.all_mk KX G hmg ?a0 ?l0 ?c0 ?k0 ?a1 ?l1 ?c1 ?k1 ?a2 ?l2 ?c2 ?k2 ?a3 ?l3 ?c3 ?k3 ?a4 ?l4 ?c4 ?k4 ?a5 ?l5 ?c5 ?k5 ?a6 ?l6 ?c6 ?k6 ?a7 ?l7 ?c7 ?k7 ?a8 ?l8 ?c8 ?k8 ?a9 ?l9 ?c9 ?k9 ?a10 ?l10 ?c10 ?k10 ?a11 ?l11 ?c11 ?k11 ?a12 ?l12 ?c12 ?k12 ?a13 ?l13 ?c13 ?k13 ?a14 ?l14 ?c14 ?k14 ?a15 ?l15 ?c15 ?k15 ?s_BASE ?z_list ?z_int ?z_len ?z_range ?z_ord ?z_repr ?z_max ?z_min ?z_tuple
    (case a0 => k_is)
    (case l0 => k_is)
    (case c0 => k_is)
    (case k0 => k_is)
    (case a1 => k_is)
    (case l1 => k_is)
    (case c1 => k_is)
    (case k1 => k_is)
    (case a2 => k_is)
    (case l2 => k_is)
    (case c2 => k_is)
    (case k2 => k_is)
    (case a3 => k_is)
    (case l3 => k_is)
    (case c3 => k_is)
    (case k3 => k_is)
    (case a4 => k_is)
    (case l4 => k_is)
    (case c4 => k_is)
    (case k4 => k_is)
    (case a5 => k_is)
    (case l5 => k_is)
    (case c5 => k_is)
    (case k5 => k_is)
    (case a6 => k_is)
    (case l6 => k_is)
    (case c6 => k_is)
    (case k6 => k_is)
    (case a7 => k_is)
    (case l7 => k_is)
    (case c7 => k_is)
    (case k7 => k_is)
    (case a8 => k_is)
    (case l8 => k_is)
    (case c8 => k_is)
    (case k8 => k_is)
    (case a9 => k_is)
    (case l9 => k_is)
    (case c9 => k_is)
    (case k9 => k_is)
    (case a10 => k_is)
    (case l10 => k_is)
    (case c10 => k_is)
    (case k10 => k_is)
    (case a11 => k_is)
    (case l11 => k_is)
    (case c11 => k_is)
    (case k11 => k_is)
    (case a12 => k_is)
    (case l12 => k_is)
    (case c12 => k_is)
    (case k12 => k_is)
    (case a13 => k_is)
    (case l13 => k_is)
    (case c13 => k_is)
    (case k13 => k_is)
    (case a14 => k_is)
    (case l14 => k_is)
    (case c14 => k_is)
    (case k14 => k_is)
    (case a15 => k_is)
    (case l15 => k_is)
    (case c15 => k_is)
    (case k15 => k_is)
    (case s_BASE => k_is)
    (case z_list => k_is)
    (case z_int => k_is)
    (case z_len => k_is)
    (case z_range => k_is)
    (case z_ord => k_is)
    (case z_repr => k_is)
    (case z_max => k_is)
    (case z_min => k_is)
    (case z_tuple => k_is)
