import PyProof.Rows.All
import Wide.All
import OpenK.AllK
import Wide.FinOn
import KE.KStateDown
import HandS.ForMost
import HandS.Defaults
import HandS.IsInst
import HandS.SetKeys
import HandS.Strs
import HandS.CallLocal
import HandS.WrittenGet
import HandS.NoneIn
import HandS.DictComp
import HandS.Deep
import HandS.Sort
import HandS.SortOrd
import HandS.ListItems
import HandS.DictTup
import HandS.ForExc
import HandS.Flow
import HandS.Walk
import HandS.Head0
import HandS.Head1
import HandS.Head2
import HandS.HeadEnd
import HandS.HeadHook1
import HandS.HeadHook2
import HandS.HeadHook3
import HandS.HeadHook4
import PySem.Challenge.RW_sayso_k21_bound_variables_are_told_apart
import KE.KIntText
import HandS.TupAny
import HandS.FStr
import HandS.Steps
import HandS.Zip
import PyProof.EqKinds
set_option Elab.async false
set_option linter.all false
set_option maxRecDepth 100000
set_option maxHeartbeats 4000000
namespace SaysoV
open PySem PySem.Spec PyProof.Rows L2
/-! ### the text by places, what a def is to its callers -/
def top (i : Nat) : Stmt := PySem.Challenge.pw_sayso_k21_bound_variables_are_told_apart.main.body.getD i (.Pass ⟨0, 0, 0, 0⟩)
abbrev FnP (K : PySem.W.Frag) (x : Str) (st : Stmt) (f : Addr) (fd : FuncData) : Prop := FunD K x x (defArgs st) (defBody st) (defScope st) [] [] f fd
/-- a def as the top leaves it -/
def Def (K : PySem.W.Frag) (mg : Str → Option Value) (x : Str) (ps : List Str) (st : Stmt) : Prop := ∃ f fd, FnP K x st f fd ∧ mg x = some (.ref f) ∧ Binds K fd ps []
/-- a def with its promise, as a caller takes it -/
def HasX (CX : CXT) (P : Program) (w : World) (K : PySem.W.Frag) (mg : Str → Option Value) (base : Heap) (k : Nat) (x : Str) (ps : List Str) (sp : Sp) : Prop :=
  ∃ f fd, FnOk P w K mg base CX k f fd ps sp ∧ mg x = some (.ref f) ∧ PySem.W.keepIn K (.ref f) = true ∧ Binds K fd ps []
abbrev Has := HasX CX0
/-- the names that are still built-in -/
structure Txt (mg : Str → Option Value) : Prop where
  n_len : mg "len" = none
  n_range : mg "range" = none
  n_isinstance : mg "isinstance" = none
  n_list : mg "list" = none
  n_tuple : mg "tuple" = none
  n_bool : mg "bool" = none
  n_int : mg "int" = none
  n_str : mg "str" = none
  n_sorted : mg "sorted" = none
  n_set : mg "set" = none
  n_all : mg "all" = none
  n_any : mg "any" = none
  n_sum : mg "sum" = none
  n_max : mg "max" = none
  n_min : mg "min" = none
  n_dict : mg "dict" = none
  n_enumerate : mg "enumerate" = none
  n_zip : mg "zip" = none
section
variable {P : Program} {w : World} {K : PySem.W.Frag} {mg : Str → Option Value} {base : Heap} {CX : CXT}
theorem Def.has {x : Str} {ps : List Str} {st : Stmt} {k : Nat} {sp : Sp} (D : Def K mg x ps st) (h : ∀ f fd, FnP K x st f fd → FnOk P w K mg base CX k f fd ps sp) : HasX CX P w K mg base k x ps sp := by
  obtain ⟨f, fd, F, g, b⟩ := D
  exact ⟨f, fd, h f fd F, g, F.kp, b⟩
end
theorem same_upd {H : Hp} {p : Addr} {o : HO} (h : H p = none) : Same H (upd H p o) := fun b x e => by
  rw [upd_ne (ne_of_none e h)]
  exact e
/-- all that was tracked but d is as it was -/
def Kp (d : Addr) (H H' : Hp) : Prop := ∀ b o, H b = some o → b ≠ d → H' b = some o
theorem Kp.refl (d : Addr) (H : Hp) : Kp d H H := fun _ _ e _ => e
theorem Kp.trans {d : Addr} {H H1 H2 : Hp} (a : Kp d H H1) (b : Kp d H1 H2) : Kp d H H2 := fun c o e n => b c o (a c o e n) n
theorem Kp.of {d : Addr} {H H' : Hp} (a : Same H H') : Kp d H H' := fun c o e _ => a c o e
theorem Kp.upd {d : Addr} {H : Hp} {o : HO} : Kp d H (L2.upd H d o) := fun c x e n => by rw [upd_ne n]; exact e
theorem Kp.free {d : Addr} {H H' : Hp} {p : Addr} (a : Kp d H H') (hp : p ≠ d) (h : H' p = none) : H p = none := by
  cases q : H p with
  | none => rfl
  | some o => rw [a p o q hp] at h; cases h
/-- the draws: a list of small numbers at l, and the place of the next one -/
def DrA (H : Hp) (d l : Addr) : Prop := ∃ (n : Nat) (ms : List Int), H d = some (.lst [.ref l, .int n]) ∧ H l = some (.lst (ms.map V.int)) ∧ ∀ z, z ∈ ms → 0 ≤ z ∧ z < 1000000
theorem draws_ne {H : Hp} {d l : Addr} {n : Int} {ms : List Int} (h1 : H d = some (.lst [.ref l, .int n])) (h2 : H l = some (.lst (ms.map V.int))) : l ≠ d := by
  intro e
  subst e
  rw [h1] at h2
  have h3 : [V.ref l, V.int n] = ms.map V.int := HO.lst.inj (Option.some.inj h2)
  cases ms with
  | nil => cases h3
  | cons a r => injection h3 with h4 _; cases h4
theorem DrA.same {H H' : Hp} {d l : Addr} (h : DrA H d l) (s : Same H H') : DrA H' d l := by
  obtain ⟨n, ms, h1, h2, h3⟩ := h
  exact ⟨n, ms, s _ _ h1, s _ _ h2, h3⟩
theorem DrA.some {H : Hp} {d l : Addr} (h : DrA H d l) : ∃ xs, H d = Option.some (.lst xs) := by
  obtain ⟨n, ms, h1, _⟩ := h
  exact ⟨_, h1⟩
theorem DrA.some' {H : Hp} {d l : Addr} (h : DrA H d l) : ∃ xs, H l = Option.some (.lst xs) := by
  obtain ⟨n, ms, _, h1, _⟩ := h
  exact ⟨_, h1⟩
theorem DrA.ne {H : Hp} {d l p : Addr} (h : DrA H d l) (np : H p = none) : p ≠ d ∧ p ≠ l := by
  obtain ⟨xs, e⟩ := h.some
  obtain ⟨ys, e'⟩ := h.some'
  exact ⟨(fun z => by rw [z, e] at np; cases np), (fun z => by rw [z, e'] at np; cases np)⟩
theorem DrA.kp {H H' : Hp} {d l p : Addr} (h : DrA H d l) (k : Kp p H H') (n : p ≠ d ∧ p ≠ l) : DrA H' d l := by
  obtain ⟨i, ms, h1, h2, h3⟩ := h
  exact ⟨i, ms, k _ _ h1 n.1.symm, k _ _ h2 n.2.symm, h3⟩
theorem get_int {ns : List Int} {i : Nat} {y : V} (h : (ns.map V.int)[i]? = some y) : ∃ z, ns[i]? = some z ∧ y = .int z := by
  rw [List.getElem?_map] at h
  cases e : ns[i]? with
  | none => rw [e] at h; cases h
  | some z => rw [e] at h; exact ⟨z, rfl, (Option.some.inj h).symm⟩
/-! ### the promises of the law's helpers -/
def spMixed : Sp := fun vs H Q _ => ∃ n k : Int, vs = [.int n, .int k] ∧ ∀ z : Int, 0 ≤ z → z < 2147483647 → Q (.int z) H
def Small (ms : List Int) : Prop := ∀ z, z ∈ ms → 0 ≤ z ∧ z < 1000000
theorem Small.add {ms : List Int} {z : Int} (h : Small ms) : Small (ms ++ [z % 1000000]) := by
  intro y hy
  rcases List.mem_append.mp hy with hy | hy
  · exact h y hy
  · rw [List.mem_singleton.mp hy]
    exact ⟨Int.emod_nonneg _ (by decide), Int.emod_lt_of_pos _ (by decide)⟩
def spNumbers (K : PySem.W.Frag) : Sp := fun vs H Q _ => ∃ (a : Addr) (ns : List Int), vs = [.ref a] ∧ SqL K H a (ns.map V.int) ∧ ns.length ≤ 63 ∧
  ∀ (H' : Hp) (p : Addr) (ms : List Int), Same H H' → H p = none → H' p = some (.lst (ms.map V.int)) → Small ms → Q (.ref p) H'
def spDraw : Sp := fun vs H Q _ => ∃ d l : Addr, vs = [.ref d] ∧ DrA H d l ∧ ∀ (z : Int) (H' : Hp), 0 ≤ z → z < 1000000 → DrA H' d l → Kp d H H' → Q (.int z) H'
section
variable {P : Program} {w : World} {K : PySem.W.Frag} {mg : Str → Option Value} {base : Heap}
theorem sc_mixed : FnScope ["number", "k", "step"] ["number", "k"] (defScope (top 60)) := ⟨rfl, rfl, rfl, by decide +kernel, rfl, by decide +kernel, by decide +kernel⟩
theorem has_mixed (D : Def K mg "_law_mixed" ["number", "k"] (top 60)) : Has P w K mg base 1 "_law_mixed" ["number", "k"] spMixed := D.has fun f fd F => by
  refine F.ok sc_mixed (fun vs H Q E h => ?_) (fun cdv A outer s H vs Q E hr h => ?_)
  · obtain ⟨n, k, rfl, _⟩ := h; rfl
  · obtain ⟨n, k, rfl, q⟩ := h
    refine ⟨_, PSs.nox (pss_cons (ps_set (i := 2) sc_mixed.nd rfl (Or.inl rfl) (pe_op op_mod (pe_op op_add (pe_op op_add (pe_op op_mul (pv 0) pe_int) (pe_op op_mul (pv 1) pe_int)) pe_int) pe_int)) (pss_one (ps_ret (pe_op op_mod (pe_op op_add (pe_op op_mul (pv 2) (pe_op op_add (pe_op op_fdiv (pv 2) pe_int) pe_int)) (pv 1)) pe_int)))), ?_⟩
    refine ⟨_, rfl, _, _, rfl, rfl, .inr ⟨by decide, by decide⟩, _, rfl, _, _, rfl, rfl, .inr ⟨by decide, by decide⟩, _, _, rfl, rfl, _, _, rfl, rfl, _, _, rfl, rfl, (by show (0 : Int) < 2147483647; decide), ?_⟩
    have h0 : 0 ≤ (n * 48271 + k * 69621 + 12345) % 2147483647 := Int.emod_nonneg _ (by decide)
    have h1 : (n * 48271 + k * 69621 + 12345) % 2147483647 < 2147483647 := Int.emod_lt_of_pos _ (by decide)
    revert h0 h1
    generalize (n * 48271 + k * 69621 + 12345) % 2147483647 = z
    intro h0 h1
    refine ⟨_, rfl, _, rfl, _, _, rfl, rfl, ⟨by decide, by decide⟩, _, _, rfl, rfl, _, _, rfl, rfl, .inl ⟨by omega, by omega⟩, _, rfl, _, _, rfl, rfl, _, _, rfl, rfl, (by show (0 : Int) < 2147483647; decide), ?_⟩
    exact q _ (Int.emod_nonneg _ (by decide)) (Int.emod_lt_of_pos _ (by decide))
theorem sc_numbers : FnScope ["script", "numbers", "cell", "rest", "k"] ["script"] (defScope (top 61)) := ⟨rfl, rfl, rfl, by decide +kernel, rfl, by decide +kernel, by decide +kernel⟩
theorem has_numbers (D : Def K mg "_law_numbers" ["script"] (top 61)) (T : Txt mg) (C1 : Has P w K mg base 1 "_law_mixed" ["number", "k"] spMixed) : Has P w K mg base 2 "_law_numbers" ["script"] (spNumbers K) := D.has fun f fd F => by
  obtain ⟨f1, fd1, G_law_mixed, g_law_mixed, k_law_mixed, b_law_mixed⟩ := C1
  refine F.ok sc_numbers (fun vs H Q E h => ?_) (fun cdv A outer s H vs Q E hr h => ?_)
  · obtain ⟨a, ns, rfl, _⟩ := h; rfl
  · obtain ⟨a, ns, rfl, hS, hlen, q⟩ := h
    have R_law_mixed : Room 1 _ := hr.mono (by decide)
    refine ⟨_, PSs.nox (pss_cons (ps_set (i := 1) sc_numbers.nd rfl (Or.inl rfl) (pe_lst pa_nil)) (pss_cons (ps_for PassesOwn.never rfl (pi_list (pv 0)) (pg_name (i := 2) sc_numbers.nd rfl (Or.inl rfl)) (pss_one (ps_if (pt_cmpR op_ge (pv 2) (pe_op op_pow pe_int pe_int) (nomark _)) (pss_cons (ps_set (i := 3) sc_numbers.nd rfl (Or.inl rfl) (pv 2)) (pss_one (ps_for PassesOwn.never rfl (pi_range1 (by rfl) T.n_range (pa_cons pe_int pa_nil)) (pg_name (i := 4) sc_numbers.nd rfl (Or.inl rfl)) (pss_one (ps_if (pt_cmpR op_gt (pv 3) pe_int (nomark _)) (pss_cons (ps_expr (pe_bm PySem.F.plainAttrs_list PySem.F.slot_list_append PySem.F.type_list_append mt_append (pv 1) (pa_cons (pe_op op_mod (pv 3) pe_int) pa_nil))) (pss_one (ps_set (i := 3) sc_numbers.nd rfl (Or.inl rfl) (pe_op op_fdiv (pv 3) pe_int)))) pss_nil))))) (pss_cons (ps_expr (pe_bm PySem.F.plainAttrs_list PySem.F.slot_list_append PySem.F.type_list_append mt_append (pv 1) (pa_cons (pe_op op_mod (pv 2) pe_int) pa_nil))) (pss_one (ps_for PassesOwn.never rfl (pi_range1 (by rfl) T.n_range (pa_cons pe_int pa_nil)) (pg_name (i := 4) sc_numbers.nd rfl (Or.inl rfl)) (pss_one (ps_expr (pe_bm PySem.F.plainAttrs_list PySem.F.slot_list_append PySem.F.type_list_append mt_append (pv 1) (pa_cons (pe_op op_mod (pe_call G_law_mixed R_law_mixed (by rfl) g_law_mixed k_law_mixed b_law_mixed .nil pass0 (pa_cons (pe_call G_law_mixed R_law_mixed (by rfl) g_law_mixed k_law_mixed b_law_mixed .nil pass0 (pa_cons (pe_op op_mod (pv 2) pe_int) (pa_cons (pv 4) pa_nil))) (pa_cons (pe_op op_add (pv 4) pe_int) pa_nil))) pe_int) pa_nil)))))))))) (pss_one (ps_ret (pv 1))))), ?_⟩
    refine ⟨Nat.zero_le _, fun p np => ?_⟩
    have s0 : Same H (upd H p (.lst [])) := same_upd np
    refine ⟨_, rfl, a, rfl, ⟨_, s0.seq hS⟩, for_list (K := K) (a := a) (xs := ns.map V.int) (fun i σ H2 => ∃ (y2 y3 y4 : Option V) (ms : List Int), σ = [some (.ref a), some (.ref p), y2, y3, y4] ∧ Same H H2 ∧ H2 p = some (.lst (ms.map V.int)) ∧ ms.length ≤ 61 * i ∧ Small ms)
      ⟨none, none, none, [], rfl, s0, upd_same, Nat.zero_le _, fun z hz => nomatch hz⟩ (fun i σ H2 _ ⟨_, _, _, _, _, s2, _⟩ => s2.seq hS) ?_ ?_⟩
    · rintro i y σ H2 hi ⟨y2, y3, y4, ms, rfl, s2, hp, hl, sm⟩
      obtain ⟨c, hc, rfl⟩ := get_int hi
      have hi63 : i < 63 := by
        have := (List.getElem?_eq_some_iff.mp hc).1
        omega
      have room : ∀ j : Nat, j ≤ 60 → ((ms.length + j : Nat) < sizeLine) := fun j hj => Nat.lt_of_le_of_lt (show ms.length + j ≤ 61 * 62 + 60 by omega) (by decide)
      refine ⟨_, rfl, _, _, rfl, rfl, ⟨by decide, by decide, by decide⟩, _, _, rfl, rfl, _, rfl, ite2 (fun e => ?_) (fun e => ?_)⟩
      · -- a huge number: its pieces
        refine ⟨_, rfl, 60, rfl, by decide, by decide, for_range (n := 60) (fun j σ H3 => ∃ (y4 : Option V) (r : Int) (ms3 : List Int), σ = [some (.ref a), some (.ref p), some (.int c), some (.int r), y4] ∧ Same H H3 ∧ H3 p = some (.lst (ms3.map V.int)) ∧ ms3.length ≤ ms.length + j ∧ Small ms3)
          ⟨y4, c, ms, rfl, s2, hp, Nat.le_refl _, sm⟩ ?_ ?_⟩
        · rintro j σ H3 hj ⟨y4, r, ms3, rfl, s3, hp3, hl3, sm3⟩
          refine ⟨_, rfl, _, _, rfl, rfl, _, rfl, ite2 (fun e2 => ?_) (fun e2 => ?_)⟩
          · refine ⟨_, rfl, .inl ⟨rfl, _, SqL.of hp3⟩, _, rfl, _, _, rfl, rfl, (by show (0 : Int) < 1000000; decide), p, _, _, rfl, rfl, hp3, ?_, ?_⟩
            · rw [List.length_map]
              exact Nat.lt_of_le_of_lt hl3 (room j (by omega))
            · refine ⟨_, rfl, _, _, rfl, rfl, ⟨by decide, by decide⟩, ?_⟩
              refine ⟨_, _, ms3 ++ [r % 1000000], rfl, fun b o eb => ?_, ?_, ?_, sm3.add⟩
              · rw [upd_ne (ne_of_none eb np)]
                exact s3 _ _ eb
              · rw [upd_same, List.map_append]
                rfl
              · rw [List.length_append]
                show ms3.length + 1 ≤ _
                omega
          · exact ⟨_, r, ms3, rfl, s3, hp3, by omega, sm3⟩
        · rintro σ H3 ⟨y4, r, ms3, rfl, s3, hp3, hl3, sm3⟩
          exact ⟨_, _, y4, ms3, rfl, s3, hp3, by omega, sm3⟩
      · refine ⟨_, rfl, .inl ⟨rfl, _, SqL.of hp⟩, _, rfl, _, _, rfl, rfl, (by show (0 : Int) < 1000000; decide), p, _, _, rfl, rfl, hp, ?_, ?_⟩
        · rw [List.length_map]
          exact room 0 (by decide)
        · refine ⟨5, rfl, by decide, by decide, for_range (n := 5) (fun j σ H3 => ∃ (y4 : Option V) (ms3 : List Int), σ = [some (.ref a), some (.ref p), some (.int c), y3, y4] ∧ Same H H3 ∧ H3 p = some (.lst (ms3.map V.int)) ∧ ms3.length ≤ ms.length + 1 + j ∧ Small ms3)
            ⟨y4, ms ++ [c % 1000000], rfl, fun b o eb => ?_, ?_, ?_, sm.add⟩ ?_ ?_⟩
          · rw [upd_ne (ne_of_none eb np)]
            exact s2 _ _ eb
          · rw [upd_same, List.map_append]
            rfl
          · rw [List.length_append]
            show ms.length + 1 ≤ _
            omega
          · rintro j σ H3 hj ⟨y4, ms3, rfl, s3, hp3, hl3, sm3⟩
            refine ⟨_, rfl, .inl ⟨rfl, _, SqL.of hp3⟩, ?_⟩
            refine ⟨_, rfl, _, _, rfl, rfl, (by show (0 : Int) < 2147483647; decide), _, rfl, _, _, rfl, fun z1 _ _ => ?_⟩
            refine ⟨_, rfl, _, _, rfl, rfl, _, _, rfl, fun z2 _ _ => ?_⟩
            refine ⟨_, _, rfl, rfl, (by show (0 : Int) < 1000000; decide), p, _, _, rfl, rfl, hp3, ?_, ?_⟩
            · rw [List.length_map]
              exact Nat.lt_of_le_of_lt hl3 (Nat.lt_of_le_of_lt (show ms.length + 1 + j ≤ ms.length + 60 by omega) (room 60 (by decide)))
            · refine ⟨_, ms3 ++ [z2 % 1000000], rfl, fun b o eb => ?_, ?_, ?_, sm3.add⟩
              · rw [upd_ne (ne_of_none eb np)]
                exact s3 _ _ eb
              · rw [upd_same, List.map_append]
                rfl
              · rw [List.length_append]
                show ms3.length + 1 ≤ _
                omega
          · rintro σ H3 ⟨y4, ms3, rfl, s3, hp3, hl3, sm3⟩
            exact ⟨_, _, y4, ms3, rfl, s3, hp3, by omega, sm3⟩
    · rintro σ H2 ⟨y2, y3, y4, ms, rfl, s2, hp, hl, sm⟩
      exact ⟨_, rfl, q H2 p ms s2 np hp sm⟩
theorem sc_draw : FnScope ["draws", "at", "first"] ["draws"] (defScope (top 62)) := ⟨rfl, rfl, rfl, by decide +kernel, rfl, by decide +kernel, by decide +kernel⟩
theorem has_draw (D : Def K mg "_law_draw" ["draws"] (top 62)) (T : Txt mg) (C1 : Has P w K mg base 1 "_law_mixed" ["number", "k"] spMixed) : Has P w K mg base 2 "_law_draw" ["draws"] spDraw := D.has fun f fd F => by
  obtain ⟨f1, fd1, G_law_mixed, g_law_mixed, k_law_mixed, b_law_mixed⟩ := C1
  refine F.ok sc_draw (fun vs H Q E h => ?_) (fun cdv A outer s H vs Q E hr h => ?_)
  · obtain ⟨d, l, rfl, _⟩ := h; rfl
  · obtain ⟨d, l, rfl, ⟨n, ms, h1, h2, sm⟩, q⟩ := h
    have R_law_mixed : Room 1 _ := hr.mono (by decide)
    have nld := draws_ne h1 h2
    refine ⟨_, PSs.nox (pss_cons (ps_set (i := 1) sc_draw.nd rfl (Or.inl rfl) (pe_ix ix_list (pv 0) pe_int (fun _ _ => rfl))) (pss_cons (ps_asg (pe_op op_add (pv 1) pe_int) (pg_sub (pv 0) pe_int set_list)) (pss_cons (ps_if (pt_cmpR op_lt (pv 1) (pe_callB call_len_seq (by rfl) T.n_len PySem.boot_len (pa_cons (pe_ix ix_list (pv 0) pe_int (fun _ _ => rfl)) pa_nil)) (nomark _)) (pss_one (ps_ret (pe_ix ix_list (pe_ix ix_list (pv 0) pe_int (fun _ _ => rfl)) (pv 1) (fun _ _ => rfl)))) pss_nil) (pss_cons (ps_set (i := 2) sc_draw.nd rfl (Or.inl rfl) (pe_op op_add pe_int (pv 1))) (pss_cons (ps_if (pt_cmpR op_gt (pe_callB call_len_seq (by rfl) T.n_len PySem.boot_len (pa_cons (pe_ix ix_list (pv 0) pe_int (fun _ _ => rfl)) pa_nil)) pe_int (nomark _)) (pss_one (ps_set (i := 2) sc_draw.nd rfl (Or.inl rfl) (pe_op op_add (pv 2) (pe_op op_mul pe_int (pe_ix ix_list (pe_ix ix_list (pv 0) pe_int (fun _ _ => rfl)) pe_int (fun _ _ => rfl)))))) pss_nil) (pss_one (ps_ret (pe_op op_mod (pe_call G_law_mixed R_law_mixed (by rfl) g_law_mixed k_law_mixed b_law_mixed .nil pass0 (pa_cons (pe_call G_law_mixed R_law_mixed (by rfl) g_law_mixed k_law_mixed b_law_mixed .nil pass0 (pa_cons (pv 2) (pa_cons (pv 1) pa_nil))) (pa_cons pe_int pa_nil))) pe_int)))))))), ?_⟩
    refine ⟨_, rfl, d, _, _, _, rfl, rfl, SqL.of h1, atI_nat (j := 1) rfl, ?_⟩
    refine ⟨_, rfl, _, _, rfl, rfl, _, rfl, d, _, _, 1, rfl, rfl, h1, rfl, ?_⟩
    have k1 : Kp d H (upd H d (.lst ([V.ref l, V.int n].set 1 (.int ((n : Int) + 1))))) := Kp.upd
    have h1' : (upd H d (.lst ([V.ref l, V.int n].set 1 (.int ((n : Int) + 1))))) d = some (.lst [.ref l, .int ((n + 1 : Nat) : Int)]) := by
      rw [upd_same]
      rfl
    have h2' : (upd H d (.lst ([V.ref l, V.int n].set 1 (.int ((n : Int) + 1))))) l = some (.lst (ms.map V.int)) := k1 l _ h2 nld
    revert k1 h1' h2'
    generalize upd H d (.lst ([V.ref l, V.int n].set 1 (.int ((n : Int) + 1)))) = H1
    intro k1 h1' h2'
    have dr : DrA H1 d l := ⟨n + 1, ms, h1', h2', sm⟩
    refine ⟨_, rfl, _, rfl, d, _, _, _, rfl, rfl, SqL.of h1', atI_nat (j := 0) rfl, l, _, rfl, .inl (SqL.of h2'), _, _, rfl, rfl, _, rfl, ite2 (fun e => ?_) (fun e => ?_)⟩
    · have hn : n < ms.length := by
        have e1 := of_decide_eq_true e
        rw [List.length_map] at e1
        omega
      have e1 : (ms.map V.int)[n]? = some (.int ms[n]) := by
        rw [List.getElem?_map, List.getElem?_eq_getElem hn]
        rfl
      refine ⟨_, rfl, d, _, _, _, rfl, rfl, SqL.of h1', atI_nat (j := 0) rfl, _, rfl, l, _, _, _, rfl, rfl, SqL.of h2', atI_nat e1, ?_⟩
      obtain ⟨z0, z1⟩ := sm _ (List.getElem_mem hn)
      exact q _ _ z0 z1 dr k1
    · refine ⟨_, rfl, _, _, rfl, rfl, ?_⟩
      refine ⟨_, rfl, d, _, _, _, rfl, rfl, SqL.of h1', atI_nat (j := 0) rfl, l, _, rfl, .inl (SqL.of h2'), _, _, rfl, rfl, _, rfl, ite2 (fun e2 => ?_) (fun e2 => ?_)⟩
      · have hn : 0 < ms.length := by
          have e1 := of_decide_eq_true e2
          rw [List.length_map] at e1
          omega
        have e1 : (ms.map V.int)[0]? = some (.int ms[0]) := by
          rw [List.getElem?_map, List.getElem?_eq_getElem hn]
          rfl
        refine ⟨_, rfl, _, rfl, d, _, _, _, rfl, rfl, SqL.of h1', atI_nat (j := 0) rfl, l, _, _, _, rfl, rfl, SqL.of h2', atI_nat (j := 0) e1, _, _, rfl, rfl, .inl ⟨by decide, by decide⟩, _, _, rfl, rfl, ?_⟩
        refine ⟨_, rfl, _, rfl, _, _, rfl, fun z1 _ _ => ?_⟩
        refine ⟨_, _, rfl, fun z2 _ _ => ?_⟩
        refine ⟨_, _, rfl, rfl, (by show (0 : Int) < 1000000; decide), ?_⟩
        exact q _ _ (Int.emod_nonneg _ (by decide)) (Int.emod_lt_of_pos _ (by decide)) dr k1
      · refine ⟨_, rfl, _, rfl, _, _, rfl, fun z1 _ _ => ?_⟩
        refine ⟨_, _, rfl, fun z2 _ _ => ?_⟩
        refine ⟨_, _, rfl, rfl, (by show (0 : Int) < 1000000; decide), ?_⟩
        exact q _ _ (Int.emod_nonneg _ (by decide)) (Int.emod_lt_of_pos _ (by decide)) dr k1
end
/-! ### what stands at the top -/
def thB (K : PySem.W.Frag) (x : Str) (kvs : List (Str × He.Dv)) : Bool := kvs.all fun p => match PySem.W.nsIn K (He.ga K x) p.1 with
  | some (some u) => He.relB (p.2.v K) u
  | _ => false
def msB (K : PySem.W.Frag) (x : Str) (ks : List Str) : Bool := ks.all fun k => match PySem.W.nsIn K (He.ga K x) k with
  | some none => true
  | _ => false
def d_is_whole : He.DefD := ⟨("is_whole", none), "is_whole", "is_whole", defArgs (top 4), defBody (top 4), defScope (top 4), [], []⟩
def d_is_between : He.DefD := ⟨("is_between", none), "is_between", "is_between", defArgs (top 5), defBody (top 5), defScope (top 5), [], []⟩
def d_is_name : He.DefD := ⟨("is_name", none), "is_name", "is_name", defArgs (top 11), defBody (top 11), defScope (top 11), [], []⟩
def d_are_variables : He.DefD := ⟨("_are_variables", none), "_are_variables", "_are_variables", defArgs (top 22), defBody (top 22), defScope (top 22), [], []⟩
def d_are_different : He.DefD := ⟨("are_different", none), "are_different", "are_different", defArgs (top 23), defBody (top 23), defScope (top 23), [], []⟩
def d_is_rel : He.DefD := ⟨("_is_rel", none), "_is_rel", "_is_rel", defArgs (top 24), defBody (top 24), defScope (top 24), [], []⟩
def d_is_comparison : He.DefD := ⟨("_is_comparison", none), "_is_comparison", "_is_comparison", defArgs (top 25), defBody (top 25), defScope (top 25), [], []⟩
def d_is_negation : He.DefD := ⟨("_is_negation", none), "_is_negation", "_is_negation", defArgs (top 26), defBody (top 26), defScope (top 26), [], []⟩
def d_is_joined : He.DefD := ⟨("_is_joined", none), "_is_joined", "_is_joined", defArgs (top 27), defBody (top 27), defScope (top 27), [], []⟩
def d_is_quantified : He.DefD := ⟨("_is_quantified", none), "_is_quantified", "_is_quantified", defArgs (top 28), defBody (top 28), defScope (top 28), [], []⟩
def d_is_fixed_point : He.DefD := ⟨("_is_fixed_point", none), "_is_fixed_point", "_is_fixed_point", defArgs (top 29), defBody (top 29), defScope (top 29), [], []⟩
def d_is_closure : He.DefD := ⟨("_is_closure", none), "_is_closure", "_is_closure", defArgs (top 30), defBody (top 30), defScope (top 30), [], []⟩
def d_is_guess : He.DefD := ⟨("_is_guess", none), "_is_guess", "_is_guess", defArgs (top 31), defBody (top 31), defScope (top 31), [], []⟩
def d_is_shape : He.DefD := ⟨("is_shape", none), "is_shape", "is_shape", defArgs (top 33), defBody (top 33), defScope (top 33), [], []⟩
def d_inner : He.DefD := ⟨("inner", none), "inner", "inner", defArgs (top 34), defBody (top 34), defScope (top 34), [], []⟩
def d_with_item : He.DefD := ⟨("_with_item", none), "_with_item", "_with_item", defArgs (top 35), defBody (top 35), defScope (top 35), [], []⟩
def d_with_inner : He.DefD := ⟨("with_inner", none), "with_inner", "with_inner", defArgs (top 36), defBody (top 36), defScope (top 36), [], []⟩
def d_own : He.DefD := ⟨("own", none), "own", "own", defArgs (top 37), defBody (top 37), defScope (top 37), [], []⟩
def d_with_own : He.DefD := ⟨("with_own", none), "with_own", "with_own", defArgs (top 38), defBody (top 38), defScope (top 38), [], []⟩
def d_arguments : He.DefD := ⟨("arguments", none), "arguments", "arguments", defArgs (top 39), defBody (top 39), defScope (top 39), [], []⟩
def d_with_arguments : He.DefD := ⟨("with_arguments", none), "with_arguments", "with_arguments", defArgs (top 40), defBody (top 40), defScope (top 40), [], []⟩
def d_bound_name : He.DefD := ⟨("bound_name", none), "bound_name", "bound_name", defArgs (top 41), defBody (top 41), defScope (top 41), [], []⟩
def d_bound_arity : He.DefD := ⟨("bound_arity", none), "bound_arity", "bound_arity", defArgs (top 42), defBody (top 42), defScope (top 42), [], []⟩
def d_check_shapes : He.DefD := ⟨("_check_shapes", none), "_check_shapes", "_check_shapes", defArgs (top 46), defBody (top 46), defScope (top 46), [], []⟩
def d_arities_in : He.DefD := ⟨("arities_in", none), "arities_in", "arities_in", defArgs (top 47), defBody (top 47), defScope (top 47), [], []⟩
def d_is_positive_in : He.DefD := ⟨("is_positive_in", none), "is_positive_in", "is_positive_in", defArgs (top 48), defBody (top 48), defScope (top 48), [], []⟩
def d_check_fixed_points : He.DefD := ⟨("_check_fixed_points", none), "_check_fixed_points", "_check_fixed_points", defArgs (top 49), defBody (top 49), defScope (top 49), [], []⟩
def d_check_formula : He.DefD := ⟨("check_formula", none), "check_formula", "check_formula", defArgs (top 50), defBody (top 50), defScope (top 50), [], []⟩
def d_pfree : He.DefD := ⟨("_free", none), "_free", "_free", defArgs (top 51), defBody (top 51), defScope (top 51), [], []⟩
def d_free : He.DefD := ⟨("free", none), "free", "free", defArgs (top 52), defBody (top 52), defScope (top 52), [], []⟩
def d_variables_in : He.DefD := ⟨("variables_in", none), "variables_in", "variables_in", defArgs (top 53), defBody (top 53), defScope (top 53), [], []⟩
def d_Names___init__ : He.DefD := ⟨("Names", some "__init__"), "__init__", "Names.__init__", defArgs (inClass (top 55) 0), defBody (inClass (top 55) 0), defScope (inClass (top 55) 0), [], []⟩
def d_Names_fresh : He.DefD := ⟨("Names", some "fresh"), "fresh", "Names.fresh", defArgs (inClass (top 55) 1), defBody (inClass (top 55) 1), defScope (inClass (top 55) 1), [], []⟩
def d_Names_instead_of : He.DefD := ⟨("Names", some "instead_of"), "instead_of", "Names.instead_of", defArgs (inClass (top 55) 2), defBody (inClass (top 55) 2), defScope (inClass (top 55) 2), [], []⟩
def d_renamed : He.DefD := ⟨("renamed", none), "renamed", "renamed", defArgs (top 56), defBody (top 56), defScope (top 56), [], []⟩
def d_apart : He.DefD := ⟨("apart", none), "apart", "apart", defArgs (top 58), defBody (top 58), defScope (top 58), [], []⟩
def d_law_mixed : He.DefD := ⟨("_law_mixed", none), "_law_mixed", "_law_mixed", defArgs (top 60), defBody (top 60), defScope (top 60), [], []⟩
def d_law_numbers : He.DefD := ⟨("_law_numbers", none), "_law_numbers", "_law_numbers", defArgs (top 61), defBody (top 61), defScope (top 61), [], []⟩
def d_law_draw : He.DefD := ⟨("_law_draw", none), "_law_draw", "_law_draw", defArgs (top 62), defBody (top 62), defScope (top 62), [], []⟩
def d_law_equal : He.DefD := ⟨("_law_equal", none), "_law_equal", "_law_equal", defArgs (top 63), defBody (top 63), defScope (top 63), [], []⟩
def d_law_all_equal : He.DefD := ⟨("_law_all_equal", none), "_law_all_equal", "_law_all_equal", defArgs (top 64), defBody (top 64), defScope (top 64), [], []⟩
def d_law_some_of : He.DefD := ⟨("_law_some_of", none), "_law_some_of", "_law_some_of", defArgs (top 65), defBody (top 65), defScope (top 65), [], []⟩
def d_law_atom : He.DefD := ⟨("_law_atom", none), "_law_atom", "_law_atom", defArgs (top 66), defBody (top 66), defScope (top 66), [], []⟩
def d_law_within : He.DefD := ⟨("_law_within", none), "_law_within", "_law_within", defArgs (top 67), defBody (top 67), defScope (top 67), [], []⟩
def d_law_turned : He.DefD := ⟨("_law_turned", none), "_law_turned", "_law_turned", defArgs (top 68), defBody (top 68), defScope (top 68), [], []⟩
def d_law_barred : He.DefD := ⟨("_law_barred", none), "_law_barred", "_law_barred", defArgs (top 69), defBody (top 69), defScope (top 69), [], []⟩
def d_law_bound : He.DefD := ⟨("_law_bound", none), "_law_bound", "_law_bound", defArgs (top 70), defBody (top 70), defScope (top 70), [], []⟩
def d_law_formula : He.DefD := ⟨("_law_formula", none), "_law_formula", "_law_formula", defArgs (top 71), defBody (top 71), defScope (top 71), [], []⟩
def d_law_names : He.DefD := ⟨("_law_names", none), "_law_names", "_law_names", defArgs (top 72), defBody (top 72), defScope (top 72), [], []⟩
def d_law_parts : He.DefD := ⟨("_law_parts", none), "_law_parts", "_law_parts", defArgs (top 73), defBody (top 73), defScope (top 73), [], []⟩
def d_law_bound_here : He.DefD := ⟨("_law_bound_here", none), "_law_bound_here", "_law_bound_here", defArgs (top 74), defBody (top 74), defScope (top 74), [], []⟩
def d_law_own : He.DefD := ⟨("_law_own", none), "_law_own", "_law_own", defArgs (top 75), defBody (top 75), defScope (top 75), [], []⟩
def d_law_free : He.DefD := ⟨("_law_free", none), "_law_free", "_law_free", defArgs (top 76), defBody (top 76), defScope (top 76), [], []⟩
def d_law_is_name : He.DefD := ⟨("_law_is_name", none), "_law_is_name", "_law_is_name", defArgs (top 77), defBody (top 77), defScope (top 77), [], []⟩
def d_law_same_names : He.DefD := ⟨("_law_same_names", none), "_law_same_names", "_law_same_names", defArgs (top 78), defBody (top 78), defScope (top 78), [], []⟩
def d_law_same : He.DefD := ⟨("_law_same", none), "_law_same", "_law_same", defArgs (top 79), defBody (top 79), defScope (top 79), [], []⟩
def d_law_all_bound : He.DefD := ⟨("_law_all_bound", none), "_law_all_bound", "_law_all_bound", defArgs (top 80), defBody (top 80), defScope (top 80), [], []⟩
def d_law : He.DefD := ⟨("law", none), "law", "law", defArgs (top 81), defBody (top 81), defScope (top 81), [], []⟩
def fns : List He.DefD := [d_is_whole, d_is_between, d_is_name, d_are_variables, d_are_different, d_is_rel, d_is_comparison, d_is_negation, d_is_joined, d_is_quantified, d_is_fixed_point, d_is_closure, d_is_guess, d_is_shape, d_inner, d_with_item, d_with_inner, d_own, d_with_own, d_arguments, d_with_arguments, d_bound_name, d_bound_arity, d_check_shapes, d_arities_in, d_is_positive_in, d_check_fixed_points, d_check_formula, d_pfree, d_free, d_variables_in, d_Names___init__, d_Names_fresh, d_Names_instead_of, d_renamed, d_apart, d_law_mixed, d_law_numbers, d_law_draw, d_law_equal, d_law_all_equal, d_law_some_of, d_law_atom, d_law_within, d_law_turned, d_law_barred, d_law_bound, d_law_formula, d_law_names, d_law_parts, d_law_bound_here, d_law_own, d_law_free, d_law_is_name, d_law_same_names, d_law_same, d_law_all_bound, d_law]
def fas : List He.Fa := [.glo "is_whole", .glo "is_between", .glo "is_name", .glo "_are_variables", .glo "are_different", .glo "_is_rel", .glo "_is_comparison", .glo "_is_negation", .glo "_is_joined", .glo "_is_quantified", .glo "_is_fixed_point", .glo "_is_closure", .glo "_is_guess", .glo "is_shape", .glo "inner", .glo "_with_item", .glo "with_inner", .glo "own", .glo "with_own", .glo "arguments", .glo "with_arguments", .glo "bound_name", .glo "bound_arity", .glo "_check_shapes", .glo "arities_in", .glo "is_positive_in", .glo "_check_fixed_points", .glo "check_formula", .glo "_free", .glo "free", .glo "variables_in", .meth "Names" "__init__", .meth "Names" "fresh", .meth "Names" "instead_of", .glo "renamed", .glo "apart", .glo "_law_mixed", .glo "_law_numbers", .glo "_law_draw", .glo "_law_equal", .glo "_law_all_equal", .glo "_law_some_of", .glo "_law_atom", .glo "_law_within", .glo "_law_turned", .glo "_law_barred", .glo "_law_bound", .glo "_law_formula", .glo "_law_names", .glo "_law_parts", .glo "_law_bound_here", .glo "_law_own", .glo "_law_free", .glo "_law_is_name", .glo "_law_same_names", .glo "_law_same", .glo "_law_all_bound", .glo "law", .free "len", .free "range", .free "isinstance", .free "list", .free "tuple", .free "bool", .free "int", .free "str", .free "sorted", .free "set", .free "all", .free "any", .free "sum", .free "max", .free "min", .free "dict", .free "enumerate", .free "zip", .int "LONGEST_NAME" 12, .int "MOST_JOINED" 40, .int "LARGEST_GUESS" 3, .int "MOST_PARTS" 2000, .int "MOST_DEEP" 40, .str "LETTERS" "abcdefghijklmnopqrstuvwxyz", .str "FIGURES" "0123456789", .glo "RESERVED", .glo "REL_COUNTS", .glo "OWN_COUNTS", .glo "TC_COUNTS", .glo "LENGTHS", .glo "BODY_AT", .glo "OWN_AT", .glo "ARGUMENTS_AT", .glo "TESTS", .glo "Names", .cls "Names", .mkr "Names", .noat "Names" "used", .noat "Names" "known", .noat "Names" "made"]
def tabs : List He.Tab := [((fun K => He.ga K "LENGTHS"), ["rel", "eq", "less", "not", "and", "or", "some", "all", "lfp", "pfp", "tc", "guess"]), ((fun K => He.ga K "BODY_AT"), ["not", "some", "all", "lfp", "pfp", "tc", "guess"]), ((fun K => He.ga K "OWN_AT"), ["some", "all", "lfp", "pfp", "tc"]), ((fun K => He.ga K "ARGUMENTS_AT"), ["rel", "lfp", "pfp", "tc"]), ((fun K => He.ga K "TESTS"), ["rel", "eq", "less", "not", "and", "or", "some", "all", "lfp", "pfp", "tc", "guess"])]
def exs (K : PySem.W.Frag) : Bool := He.tupB K "RESERVED" [.str "and", .str "or", .str "not", .str "some", .str "all", .str "lfp", .str "pfp", .str "tc", .str "guess", .str "true", .str "false"] && (He.tupB K "REL_COUNTS" [.int 0, .int 1, .int 2, .int 3, .int 4, .int 5, .int 6] && (He.tupB K "OWN_COUNTS" [.int 1, .int 2, .int 3, .int 4, .int 5, .int 6] && (He.tupB K "TC_COUNTS" [.int 2, .int 4, .int 6, .int 8] && (thB K "LENGTHS" [("rel", .int 3), ("eq", .int 3), ("less", .int 3), ("not", .int 2), ("and", .int 2), ("or", .int 2), ("some", .int 3), ("all", .int 3), ("lfp", .int 5), ("pfp", .int 5), ("tc", .int 4), ("guess", .int 4)] && (thB K "BODY_AT" [("not", .int 1), ("some", .int 2), ("all", .int 2), ("lfp", .int 3), ("pfp", .int 3), ("tc", .int 2), ("guess", .int 3)] && (thB K "OWN_AT" [("some", .int 1), ("all", .int 1), ("lfp", .int 2), ("pfp", .int 2), ("tc", .int 1)] && (thB K "ARGUMENTS_AT" [("rel", .int 2), ("lfp", .int 4), ("pfp", .int 4), ("tc", .int 3)] && (thB K "TESTS" [("rel", .glo "_is_rel"), ("eq", .glo "_is_comparison"), ("less", .glo "_is_comparison"), ("not", .glo "_is_negation"), ("and", .glo "_is_joined"), ("or", .glo "_is_joined"), ("some", .glo "_is_quantified"), ("all", .glo "_is_quantified"), ("lfp", .glo "_is_fixed_point"), ("pfp", .glo "_is_fixed_point"), ("tc", .glo "_is_closure"), ("guess", .glo "_is_guess")] && (msB K "BODY_AT" ["rel", "eq", "less", "and", "or"] && (msB K "OWN_AT" ["rel", "eq", "less", "not", "and", "or", "guess"] && (msB K "ARGUMENTS_AT" ["eq", "less", "not", "and", "or", "some", "all", "guess"])))))))))))
abbrev R : PySem.W.OpenRow := PySem.W.OpenLaw.row PySem.Challenge.rw_sayso_k21_bound_variables_are_told_apart
abbrev hk : PySem.W.Hook := He.hookX 4 fas fns tabs [] exs
def ob (s : PySem.W.SharedT) : He.AlX := He.obsX 4 fas fns tabs [] exs (HandSHeadRun.getT s)
theorem ob_eq (s : PySem.W.SharedT) : ob s = hk.obs s.abs := He.obsX_eq (HandSHeadRun.getT_eq s)
def looseN : List PySem.Str := (["SaysoError", "BadFormula", "is_whole", "is_between", "LONGEST_NAME", "LETTERS", "FIGURES", "RESERVED", "is_name", "MOST_JOINED", "LARGEST_GUESS", "REL_COUNTS", "OWN_COUNTS", "TC_COUNTS", "LENGTHS", "BODY_AT", "OWN_AT", "ARGUMENTS_AT", "_are_variables", "are_different", "_is_rel", "_is_comparison", "_is_negation", "_is_joined", "_is_quantified", "_is_fixed_point", "_is_closure", "_is_guess", "TESTS", "is_shape"] : List PySem.Str) ++ (["inner", "_with_item", "with_inner", "own", "with_own", "arguments", "with_arguments", "bound_name", "bound_arity", "MOST_PARTS", "MOST_DEEP", "_check_shapes", "arities_in", "is_positive_in", "_check_fixed_points", "check_formula", "_free", "free", "variables_in", "Names", "renamed", "apart", "_law_mixed", "_law_numbers", "_law_draw", "_law_equal", "_law_all_equal", "_law_some_of", "_law_atom", "_law_within"] : List PySem.Str) ++ (["_law_turned", "_law_barred", "_law_bound", "_law_formula", "_law_names", "_law_parts", "_law_bound_here", "_law_own", "_law_free", "_law_is_name", "_law_same_names", "_law_same", "_law_all_bound"] : List PySem.Str)
theorem run_f (w : World) : HandSHeadRun.RunEq R (PySem.W.view R.prog [81]) hk ob 4000 looseN (w.withFollow "special-get-raises" false) := by
  intro os
  kernel_rfl
theorem run_t (w : World) : HandSHeadRun.RunEq R (PySem.W.view R.prog [81]) hk ob 4000 looseN (w.withFollow "special-get-raises" true) := by
  intro os
  kernel_rfl
theorem run (w : World) : HandSHeadRun.RunEq R (PySem.W.view R.prog [81]) hk ob 4000 looseN w :=
  PySem.W.byRow2 "special-get-raises" (P := fun w => HandSHeadRun.RunEq R (PySem.W.view R.prog [81]) hk ob 4000 looseN w) run_f run_t w

/-! ### small helpers -/
def tyN : V → String
  | .non => "NoneType"
  | .bl _ => "bool"
  | .int _ => "int"
  | .str _ => "str"
  | _ => ""
theorem ty_flat {K : PySem.W.Frag} {H : Hp} {v : V} (h : flatV v = true) : TyX K H v (.type (tyN v)) := by
  cases v with
  | non => exact .base .non
  | bl b => exact .base (.bl b)
  | int i => exact .base (.int i)
  | str z => exact .base (.str z)
  | byt b => cases h
  | flt b => cases h
  | ref a => cases h
  | ty n => cases h
theorem cT {k : Bool} {A B : Prop} (h : k = true) (q : A) : if k = true then A else B := by rw [if_pos h]; exact q
theorem cF {k : Bool} {A B : Prop} (h : k = false) (q : B) : if k = true then A else B := by rw [h]; exact iteF q
theorem nd_f {p : Prop} [Decidable p] (h : p) : (!decide p) = false := by rw [decide_eq_true h]; rfl
theorem nd_t {p : Prop} [Decidable p] (h : ¬ p) : (!decide p) = true := by rw [decide_eq_false h]; rfl
theorem isi_q {K : PySem.W.Frag} {i : Nat} {v : V} {n m : String} {b : Bool} {σ : L2.St} {H : Hp} {Q : VK} (e : σ[i]? = some (some v)) (t : TyX K H v (.type m)) (k : kitB m n = some b) (q : Q (.bl b) H) : tCB (rIsi K) (tCons (tVar i) (tCons (tC (.ty n)) tNil)) σ H Q :=
  ⟨_, e, _, _, _, _, _, rfl, .ty _, t, kit_ty k, q⟩
theorem isi_t {K : PySem.W.Frag} {i : Nat} {v : V} {n m : String} {b : Bool} {σ : L2.St} {H : Hp} {Q : Bool → Hp → Prop} (e : σ[i]? = some (some v)) (t : TyX K H v (.type m)) (k : kitB m n = some b) (q : Q b H) : tB (tCB (rIsi K) (tCons (tVar i) (tCons (tC (.ty n)) tNil))) σ H Q :=
  ⟨_, e, _, _, _, _, _, rfl, .ty _, t, kit_ty k, _, rfl, q⟩
/-! ### names -/
def lets : Str := "abcdefghijklmnopqrstuvwxyz"
def figs : Str := "0123456789"
def both : Str := "abcdefghijklmnopqrstuvwxyz0123456789"
def resv : List V := [.str "and", .str "or", .str "not", .str "some", .str "all", .str "lfp", .str "pfp", .str "tc", .str "guess", .str "true", .str "false"]
structure Nm (z : Str) : Prop where
  lo : 1 ≤ z.length
  hi : z.length ≤ 12
  first : ∀ c, z.cps.toList[0]? = some c → c ∈ lets.cps.toList
  res : inV (.str z) resv = false
  all_ : ∀ c, c ∈ z.cps.toList → c ∈ both.cps.toList
noncomputable def isNm (z : Str) : Bool := @decide (Nm z) (Classical.propDecidable _)
theorem isNm_t {z : Str} (h : Nm z) : isNm z = true := by unfold isNm; exact @decide_eq_true _ (_) h
theorem isNm_f {z : Str} (h : ¬ Nm z) : isNm z = false := by unfold isNm; exact @decide_eq_false _ (_) h
theorem both_eq : both.cps.toList = lets.cps.toList ++ figs.cps.toList := by decide +kernel
theorem in_both {c : Nat} : c ∈ both.cps.toList ↔ c ∈ lets.cps.toList ∨ c ∈ figs.cps.toList := by rw [both_eq]; exact List.mem_append
theorem filt_t {α : Type} {l : List α} {p : α → Bool} {i : Nat} {c : α} (h : l[i]? = some c) (hp : p c = true) : (l.take (i + 1)).filter p = (l.take i).filter p ++ [c] := by
  rw [List.take_add_one, h, List.filter_append]
  show _ ++ List.filter p [c] = _
  rw [List.filter_cons_of_pos hp, List.filter_nil]
theorem filt_f {α : Type} {l : List α} {p : α → Bool} {i : Nat} {c : α} (h : l[i]? = some c) (hp : p c = false) : (l.take (i + 1)).filter p = (l.take i).filter p := by
  rw [List.take_add_one, h, List.filter_append]
  show _ ++ List.filter p [c] = _
  rw [List.filter_cons_of_neg (by rw [hp]; exact Bool.false_ne_true), List.filter_nil, List.append_nil]
theorem sz_len (z : Str) : z.cps.toList.length = z.length := by show z.cps.toList.length = z.cps.size; simp
theorem at_sz {z : Str} {i c : Nat} (h : z.cps[i]? = some c) : z.cps.toList[i]? = some c := by simpa using h
def spIsName (K : PySem.W.Frag) : Sp := fun vs H Q _ => (∃ z : Str, vs = [.str z] ∧ z.length ≤ sizeLine ∧ Q (.bl (isNm z)) H) ∨ (∃ (x : V) (t : String), vs = [x] ∧ TyX K H x (.type t) ∧ kitB t "str" = some false ∧ Q (.bl false) H)
section
variable {P : Program} {w : World} {K : PySem.W.Frag} {mg : Str → Option Value} {base : Heap}
theorem sc_is_name : FnScope ["text", "sign"] ["text"] (defScope (top 11)) := ⟨rfl, rfl, rfl, by decide +kernel, rfl, by decide +kernel, by decide +kernel⟩
theorem has_is_name (D : Def K mg "is_name" ["text"] (top 11)) (T : Txt mg) (c1 : ∃ t, mg "LONGEST_NAME" = some (.int 12 t)) (c2 : ∃ t, mg "LETTERS" = some (.str lets t)) (c3 : ∃ t, mg "FIGURES" = some (.str figs t))
    (c_RESERVED : mg "RESERVED" = some (.ref (He.ga K "RESERVED"))) (rs : ∀ H : Hp, SqT K H (He.ga K "RESERVED") resv) : Has P w K mg base 1 "is_name" ["text"] (spIsName K) := D.has fun f fd F => by
  obtain ⟨t1, c_LONGEST_NAME⟩ := c1
  obtain ⟨t2, c_LETTERS⟩ := c2
  obtain ⟨t3, c_FIGURES⟩ := c3
  refine F.ok sc_is_name (fun vs H Q E h => ?_) (fun cdv A outer s H vs Q E hr h => ?_)
  · rcases h with ⟨z, rfl, _⟩ | ⟨x, t, rfl, _⟩ <;> rfl
  · refine ⟨_, PSs.nox (pss_cons (ps_if (PW.pt (pw_or (pt_not (pt_val (pe_callB call_isi (by rfl) T.n_isinstance (by decide +kernel) (pa_cons (pv 0) (pa_cons (pe_bltn (v := .ty "str") (by rfl) T.n_str (by decide +kernel) rfl) pa_nil))))) (pw_or1 (pt_not (pt_chain op_le op_le pe_int (pe_callB call_len_str (by rfl) T.n_len PySem.boot_len (pa_cons (pv 0) pa_nil)) (pe_glob (v := .int 12) (by rfl) c_LONGEST_NAME ⟨_, rfl⟩)))))) (pss_one (ps_ret pe_bl)) pss_nil) (pss_cons (ps_if (PW.pt (pw_or (pt_cmpR op_notIn_sign (pe_ix ix_str (pv 0) pe_int (fun _ _ => rfl)) (pe_glob (v := .str "abcdefghijklmnopqrstuvwxyz") (by rfl) c_LETTERS ⟨_, rfl⟩) (by rfl)) (pw_or1 (pt_cmpR op_in_seq (pv 0) (pe_glob (v := .ref (He.ga K "RESERVED")) (by rfl) c_RESERVED rfl) (by rfl))))) (pss_one (ps_ret pe_bl)) pss_nil) (pss_cons (ps_for PassesOwn.never rfl (pi_str (pv 0)) (pg_name (i := 1) sc_is_name.nd rfl (Or.inl rfl)) (pss_one (ps_if (PW.pt (pw_and (pt_cmpR op_notIn_sign (pv 1) (pe_glob (v := .str "abcdefghijklmnopqrstuvwxyz") (by rfl) c_LETTERS ⟨_, rfl⟩) (by rfl)) (pw_and1 (pt_cmpR op_notIn_sign (pv 1) (pe_glob (v := .str "0123456789") (by rfl) c_FIGURES ⟨_, rfl⟩) (by rfl))))) (pss_one (ps_ret pe_bl)) pss_nil))) (pss_one (ps_ret pe_bl))))), ?_⟩
    rcases h with ⟨z, rfl, hz, q⟩ | ⟨x, t, rfl, tx, hk, q⟩
    · have qf : ¬ Nm z → Q (.bl false) H := fun n => by rw [isNm_f n] at q; exact q
      have qt : Nm z → Q (.bl true) H := fun n => by rw [isNm_t n] at q; exact q
      refine ⟨_, rfl, _, _, _, _, _, rfl, .ty _, .base (.str z), kit_ty (b := "str") (r := true) (by decide +kernel), _, rfl, iteF ?_⟩
      refine ⟨_, rfl, _, rfl, hz, _, _, rfl, rfl, _, rfl, ite2 (fun e => ?_) (fun e => ?_)⟩
      · refine ⟨_, _, rfl, rfl, _, rfl, ?_⟩
        have e1 := of_decide_eq_true e
        by_cases h12 : ((z.length : Nat) : Int) ≤ 12
        · refine cF (nd_f h12) ?_
          have hl1 : 0 < z.cps.toList.length := by rw [sz_len]; omega
          have e0 : z.cps.toList[0]? = some (z.cps.toList[0]) := List.getElem?_eq_getElem hl1
          refine ⟨_, rfl, z, _, _, rfl, rfl, hz, atI_nat (j := 0) e0, _, _, rfl, rfl, _, rfl, ?_⟩
          by_cases hf : z.cps.toList[0] ∈ lets.cps.toList
          · refine cF (nd_f hf) ⟨_, rfl, _, _, rfl, .inr (rs _), rfl, rfl, _, rfl, ?_⟩
            by_cases hr2 : inV (.str z) resv = true
            · exact cT hr2 (qf fun n => by rw [n.res] at hr2; cases hr2)
            · have hr3 : inV (.str z) resv = false := by simpa using hr2
              refine cF hr3 ?_
              refine ⟨_, rfl, z, rfl, for_it walk_str (fun i σ H2 => ∃ y1, σ = [some (.str z), y1] ∧ H2 = H ∧ ∀ c, c ∈ z.cps.toList.take i → c ∈ both.cps.toList) ⟨none, rfl, rfl, fun c hc => by simp at hc⟩ (fun _ _ _ _ _ => trivial) ?_ ?_⟩
              · rintro i y σ H2 H3 hi ⟨y1, rfl, rfl, ha⟩ ⟨rfl, c, hc, rfl⟩
                have hc' := at_sz hc
                have next : c ∈ both.cps.toList → ∃ y1 : Option V, ([some (V.str z), some (V.str ⟨#[c]⟩)] : L2.St) = [some (.str z), y1] ∧ H3 = H3 ∧ ∀ c', c' ∈ z.cps.toList.take (i + 1) → c' ∈ both.cps.toList := fun hb => ⟨_, rfl, rfl, fun c' h' => by
                  rw [List.take_add_one, hc'] at h'
                  rcases List.mem_append.mp h' with h' | h'
                  · exact ha c' h'
                  · have e3 : c' = c := by simpa using h'
                    rw [e3]; exact hb⟩
                refine ⟨_, rfl, _, _, rfl, rfl, _, rfl, ?_⟩
                by_cases h1 : c ∈ lets.cps.toList
                · exact cF (nd_f h1) (iteF (next (in_both.mpr (.inl h1))))
                · refine cT (nd_t h1) ⟨_, rfl, _, _, rfl, rfl, _, rfl, ?_⟩
                  by_cases h2 : c ∈ figs.cps.toList
                  · exact cF (nd_f h2) (next (in_both.mpr (.inr h2)))
                  · refine cT (nd_t h2) (qf fun n => ?_)
                    rcases in_both.mp (n.all_ c (List.mem_of_getElem? hc')) with h3 | h3
                    · exact h1 h3
                    · exact h2 h3
              · rintro σ H2 ⟨y1, rfl, rfl, ha⟩
                refine qt ⟨by omega, by omega, fun c hc => by rw [e0] at hc; rw [← Option.some.inj hc]; exact hf, by simpa using hr2, fun c hc => ha c ?_⟩
                rw [List.take_of_length_le (by simp)]
                exact hc
          · exact cT (nd_t hf) (cT rfl (qf fun n => hf (n.first _ e0)))
        · exact cT (nd_t h12) (qf fun n => h12 (by have := n.hi; omega))
      · exact ⟨_, rfl, cT (k := !false) rfl (qf fun n => e (decide_eq_true (by have := n.lo; omega)))⟩
    · exact ⟨_, rfl, _, _, _, _, _, rfl, .ty _, tx, kit_ty (b := "str") (r := false) hk, _, rfl, iteT q⟩
end
/-! ### set(xs) of a list or a tuple of ints and texts: what it holds, how many -/
theorem sub_len {α : Type} [DecidableEq α] : ∀ (d l : List α), d.Nodup → (∀ x, x ∈ d → x ∈ l) → d.length ≤ l.length
  | [], _, _, _ => Nat.zero_le _
  | x :: d, l, nd, sub => by
    have two := List.nodup_cons.mp nd
    have inl := sub x (List.mem_cons_self ..)
    have step := sub_len d (l.erase x) two.2 (fun y hy => (List.mem_erase_of_ne (fun e => two.1 (by rw [← e]; exact hy))).mpr (sub y (List.mem_cons_of_mem _ hy)))
    have shorter := List.length_erase_of_mem inl
    have some_ := List.length_pos_of_mem inl
    simp only [List.length_cons]
    omega
theorem dup_shorter {α : Type} [DecidableEq α] : ∀ (l : List α), ¬ l.Nodup → ∃ l' : List α, l'.length < l.length ∧ ∀ x, x ∈ l → x ∈ l'
  | [], h => absurd List.nodup_nil h
  | x :: l, h => by
    by_cases hx : x ∈ l
    · exact ⟨l, Nat.lt_succ_self _, fun y hy => (List.mem_cons.mp hy).elim (fun e => by rw [e]; exact hx) id⟩
    · obtain ⟨l', h1, h2⟩ := dup_shorter l (fun hl => h (List.nodup_cons.mpr ⟨hx, hl⟩))
      refine ⟨x :: l', Nat.succ_lt_succ h1, fun y hy => ?_⟩
      rcases List.mem_cons.mp hy with e | hy
      · rw [e]; exact List.mem_cons_self ..
      · exact List.mem_cons_of_mem _ (h2 y hy)
/-- c different ones in l -/
def Cnt {α : Type} (l : List α) (c : Nat) : Prop := ∃ d : List α, d.Nodup ∧ (∀ k, k ∈ d ↔ k ∈ l) ∧ d.length = c
theorem Cnt.nil {α : Type} : Cnt ([] : List α) 0 := ⟨[], List.nodup_nil, fun _ => Iff.rfl, rfl⟩
theorem Cnt.old {α : Type} {l : List α} {c : Nat} {k : α} (h : Cnt l c) (hk : k ∈ l) : Cnt (l ++ [k]) c := by
  obtain ⟨d, h1, h2, h3⟩ := h
  refine ⟨d, h1, fun x => (h2 x).trans ⟨List.mem_append_left _, fun hx => ?_⟩, h3⟩
  rcases List.mem_append.mp hx with hx | hx
  · exact hx
  · rw [List.mem_singleton.mp hx]; exact hk
theorem Cnt.new {α : Type} {l : List α} {c : Nat} {k : α} (h : Cnt l c) (hk : ¬ k ∈ l) : Cnt (l ++ [k]) (c + 1) := by
  obtain ⟨d, h1, h2, h3⟩ := h
  refine ⟨k :: d, List.nodup_cons.mpr ⟨fun hd => hk ((h2 k).mp hd), h1⟩, fun x => ?_, by rw [List.length_cons, h3]⟩
  rw [List.mem_cons, h2 x, List.mem_append, List.mem_singleton]
  exact Or.comm
theorem Cnt.le {α : Type} [DecidableEq α] {l : List α} {c : Nat} (h : Cnt l c) : c ≤ l.length := by
  obtain ⟨d, h1, h2, rfl⟩ := h
  exact sub_len d l h1 fun x hx => (h2 x).mp hx
theorem Cnt.all {α : Type} [DecidableEq α] {l : List α} {c : Nat} (h : Cnt l c) : c = l.length ↔ l.Nodup := by
  obtain ⟨d, h1, h2, rfl⟩ := h
  constructor
  · intro e
    by_cases hn : l.Nodup
    · exact hn
    · obtain ⟨l', a, b⟩ := dup_shorter l hn
      have := sub_len d l' h1 fun x hx => b x ((h2 x).mp hx)
      omega
  · intro hn
    exact Nat.le_antisymm (sub_len d l h1 fun x hx => (h2 x).mp hx) (sub_len l d hn fun x hx => (h2 x).mpr hx)
section
variable {P : Program} {w : World} {A : Around} {E : Value → Shared → Prop} {R : Result → Shared → Prop} {it : Addr} {fp wr : List Addr} {G : Array GenState → Array GenState → Prop} {n : Nat} {Pv : Nat → Value → Prop} {St : Nat → Shared → Prop}
theorem setOf_moves {h h' : Heap} {a : Addr} {S : Key → Bool} {c : Nat} (q : h.SetOf (mixKind P w) a S c) (k : ∀ o, h.get? a = some o → h'.get? a = some o) : h'.SetOf (mixKind P w) a S c := setOf_at q k
/-- k stands in l -/
def memK (l : List Key) (k : Key) : Bool := l.any fun j => decide (j = k)
theorem memK_iff {l : List Key} {k : Key} : memK l k = true ↔ k ∈ l := by
  unfold memK
  rw [List.any_eq_true]
  exact ⟨fun ⟨x, h1, h2⟩ => of_decide_eq_true h2 ▸ h1, fun h => ⟨k, h, decide_eq_true rfl⟩⟩
theorem memK_snoc {l : List Key} {k j : Key} : memK (l ++ [k]) j = (memK l j || decide (j = k)) := by
  unfold memK
  rw [List.any_append, List.any_cons, List.any_nil, Bool.or_false]
  congr 1
  exact decide_eq_decide.mpr ⟨Eq.symm, Eq.symm⟩
theorem setOf_as {h : Heap} {a : Addr} {S S' : Key → Bool} {c : Nat} (q : h.SetOf (mixKind P w) a S c) (e : ∀ k, S k = S' k) : h.SetOf (mixKind P w) a S' c := by
  have e' : S = S' := funext e
  rw [← e']; exact q
/-- the loop of set.update, one key a turn -/
theorem keys_loop (W : WalksS P w A.in1 it fp wr G n Pv St) (S : Addr) (out : S ∉ fp) (ks : List Key) (len : n = ks.length) (room : n + 1 < scanBound)
    (val : ∀ i v, Pv i v → ∃ k, ks[i]? = some k ∧ keyIs k v = true ∧ v.scannable = true) : ∀ (m i : Nat) (s : Shared), n - i = m → i ≤ n → St i s →
      (∃ c, Cnt (ks.take i) c ∧ s.heap.SetOf (mixKind P w) S (memK (ks.take i)) c) →
      (∀ s' c, Moved (S :: wr) G s s' → Cnt ks c → s'.heap.SetOf (mixKind P w) S (memK ks) c → R (.ok (.ret .none)) s') → codeAny (model P w) A (.builtin "set.update.loop" ⟨[.ref S, .ref it], []⟩) R s := by
  have outW : S ∉ wr := fun z => out (W.sub _ z)
  have wider : ∀ b ∈ wr, b ∈ S :: wr := fun _ z => List.mem_cons_of_mem _ z
  intro m
  induction m with
  | zero =>
    intro i s e1 e2 st ⟨c, hc, hS⟩ fin
    have ei : i = n := by omega
    subst ei
    refine codeAny_builtin F.entry_set_update_loop ?_; rw [Around.under_plainId F.plain_set_update_loop _]
    show wpAny _ A.in1 (pyNext (.ref it) >>= _) _ _ s
    refine wpAny_bind (W.done s _ _ st fun s' mv => ?_)
    have all : ks.take i = ks := List.take_of_length_le (Nat.le_of_eq len.symm)
    rw [all] at hc hS
    exact wpAny_pure (fin s' c (mv.mono wider) hc (setOf_moves hS fun o z => mv.heap S o outW z))
  | succ m ih =>
    intro i s e1 e2 st ⟨c, hc, hS⟩ fin
    refine codeAny_builtin F.entry_set_update_loop ?_; rw [Around.under_plainId F.plain_set_update_loop _]
    show wpAny _ A.in1 (pyNext (.ref it) >>= _) _ _ s
    refine wpAny_bind (W.item i s _ _ (by omega) st fun v s' pv st' mv => ?_)
    obtain ⟨k, hk, kv, sc⟩ := val i v pv
    have nx : ks.take (i + 1) = ks.take i ++ [k] := by rw [List.take_add_one, hk]; rfl
    have hS' := setOf_moves hS fun o z => mv.heap S o outW z
    have cl : c ≤ i := Nat.le_trans hc.le (List.length_take_le _ _)
    show wpAny _ A.in1 (holding [v] (setAdd S v) >>= _) _ _ s'
    refine wpAny_bind (wpAny_holding ?_); unfold setAdd; refine wpAny_holding (wpAny_bind ((mixKind P w).pyHash (k := k) kv ?_))
    refine wpAny_setAddHashed_of (knd := mixKind P w) (s := { s' with toks := s'.toks + 1 }) kv sc hS' (by omega) fun h2 same hS2 => ?_
    have inv2 : ∃ c2, Cnt (ks.take (i + 1)) c2 ∧ h2.SetOf (mixKind P w) S (memK (ks.take (i + 1))) c2 := by
      cases hm : memK (ks.take i) k with
      | true =>
        refine ⟨c, nx ▸ hc.old (memK_iff.mp hm), ?_⟩
        rw [hm, if_pos rfl] at hS2
        exact setOf_as hS2 fun j => by rw [nx, memK_snoc]
      | false =>
        refine ⟨c + 1, nx ▸ hc.new (fun z => by rw [memK_iff.mpr z] at hm; cases hm), ?_⟩
        rw [hm, if_neg Bool.false_ne_true] at hS2
        exact setOf_as hS2 fun j => by rw [nx, memK_snoc]
    refine wpAny_pure ⟨plainId_quiet F.plain_set_update_loop _, ih (i + 1) _ (by omega) (by omega) (W.frame _ s' _ _ st' (Nat.le_succ _) fun b hb o z => ?_) inv2 fun s3 c3 mv3 hc3 hS3 => ?_⟩
    · exact (same.2 b (fun e => out (e ▸ hb))).trans z
    · refine fin s3 c3 (Moved.trans W.gtrans ((mv.mono wider).then_heap (Nat.le_succ _) fun b o hb z => ?_) mv3) hc3 hS3
      exact (same.2 b (fun e => hb (e ▸ List.mem_cons_self ..))).trans z
end
section
variable {P : Program} {w : World} {A : Around} {E : Value → Shared → Prop} {s : Shared}
abbrev emptySet (led : Bool) : Obj := { cls := .type "set", dict := none, data := .set #[] 0 (.fresh 0 0 led) }
theorem empty_setOf {h : Heap} {a : Addr} {led : Bool} (e : h.get? a = some (emptySet led)) : h.SetOf (mixKind P w) a (fun _ => false) 0 :=
  ⟨_, #[], 0, _, e, ⟨rfl, rfl, rfl⟩, rfl, fun z hz => (by simp at hz), fun k => (by simp), by decide, rfl, rfl⟩
set_option maxHeartbeats 8000000 in
/-- set(l), l a tuple of keys -/
theorem set_of_tuple {l : Addr} {items : Array Value} {ks : List Key} {Q : Value → Shared → Prop} (hh : A.handled = none) (src : s.heap.IsTuple l items) (len : items.size = ks.length) (room : ks.length + 1 < scanBound)
    (val : ∀ (i : Nat) (v : Value), items[i]? = some v → ∃ k, ks[i]? = some k ∧ keyIs k v = true ∧ v.scannable = true)
    (fin : ∀ h' tk c, Cnt ks c → h'.SetOf (mixKind P w) s.heap.objs.size (memK ks) c → (∀ b o, s.heap.get? b = some o → h'.get? b = some o) → Q (.ref s.heap.objs.size) { s with heap := h', toks := tk }) :
    wpAny (model P w) A (call (.type "set") [.ref l]) Q E s := by
  have ⟨mc, mt, mro⟩ := F.called_set.mro; have made := F.called_set.made; have subs := F.called_set.sub
  refine wpAny_call (codeAny_of_tree ?_); show wpAny _ _ (callAny (.type "set") _) _ _ _
  refine wpAny_pure ⟨Code.quiet_builtin _ (by decide +kernel), codeAny_builtin F.entry_type_call ?_⟩; rw [Around.under_plain (weight_type_call_type "set" [.ref l] []) rfl]
  have f1 := F.called_set.notType; have f2 := F.called_set.canCreate; have f3 := F.typeCall_set_1 (.ref l)
  repeat (any_goals (first | assumption | wp_step))
  refine codeAny_mono (code_set_new_1 (.ref l) (E := E) (Q₁ := fun ob s1 => ∃ led : Bool, ob = .ref s.heap.objs.size ∧ s1 = { s with heap := s.heap.push (emptySet led) }) fun led => ⟨led, rfl, rfl⟩) fun r s1 hr => ?_
  rcases r with e | fl
  · exact hr
  rcases fl with _ | _ | _ | ob
  all_goals first | exact hr.elim | skip
  obtain ⟨led, rfl, rfl⟩ := hr
  have at0 : (s.heap.push (emptySet led)).get? s.heap.objs.size = some (emptySet led) := Heap.get?_push_size _ rfl
  have isS : Shared.TypeIs { s with heap := s.heap.push (emptySet led) } (.ref s.heap.objs.size) "set" := ⟨_, at0, rfl⟩
  have f4 := F.called_set.init.lookup; have f5 := F.called_set.init.bind (.ref s.heap.objs.size)
  repeat (any_goals (first | assumption | wp_step))
  refine codeAny_mono (codeAny_call_builtin (R := wants (fun r s2 => r = .none ∧ ∃ h' tk c, s2 = { s with heap := h', toks := tk } ∧ Cnt ks c ∧ h'.SetOf (mixKind P w) s.heap.objs.size (memK ks) c ∧ ∀ b o, s.heap.get? b = some o → h'.get? b = some o) E)
    F.called_set.init.plain F.entry_set_init (check_set_init_1 isS ?_)) fun r2 s2 hr2 => ?_
  · obtain ⟨ol, atl, cl, nl, dl⟩ := src; obtain ⟨oc, od, odt, osl⟩ := ol; simp only at cl dl; subst cl dl
    have ltl : l < s.heap.objs.size := Heap.lt_size atl
    have at1 : (s.heap.push (emptySet led)).get? l = some { cls := .type "tuple", dict := od, data := .seq items nl, slots := osl } := Heap.get?_push_of_some _ atl
    have g1 := F.sub_tuple_set; have g2 := F.sub_tuple_frozenset; have g3 : (Value.type "tuple" == Value.type "dict") = false := by decide
    have src1 : (s.heap.push (emptySet led)).IsTuple l items := ⟨_, at1, rfl, nl, rfl⟩
    have szp : (s.heap.push (emptySet led)).objs.size = s.heap.objs.size + 1 := Heap.size_push ..
    unfold Builtin.«set.__init__» noKeywords Builtin.Frozenset.updateFrom
    generalize keepIter : pyIter = PI
    wp_walk
    subst keepIter
    refine wpAny_pyIter_tuple src1 (wpAny_bind (wpAny_runValue ?_))
    have neI : l ≠ (s.heap.push (emptySet led)).objs.size := by rw [szp]; exact Nat.ne_of_lt (Nat.lt_succ_of_lt ltl)
    have notIn : s.heap.objs.size ∉ [(s.heap.push (emptySet led)).objs.size, l] := fun z => by
      rw [szp] at z
      rcases List.mem_cons.mp z with z | z
      · exact absurd z (Nat.ne_of_lt (Nat.lt_succ_self _))
      · exact absurd (List.mem_singleton.mp z).symm (Nat.ne_of_lt ltl)
    refine keys_loop ((Walks.tuple (show A.in1.in1.in1.handled = none by simp [hh]) _ l neI items).toS) s.heap.objs.size notIn ks len (by rw [len]; exact room) val (items.size - 0) 0 _ (by omega) (Nat.zero_le _)
      ⟨⟨_, Heap.get?_push_size _ rfl, rfl, rfl⟩, src1.push _⟩ ⟨0, .nil, ?_⟩ fun s' c mv hc hS => ?_
    · exact setOf_as (empty_setOf (led := led) (Heap.get?_push_of_some _ at0)) fun k => rfl
    · obtain ⟨h', g', d', tk', os'⟩ := s'
      obtain rfl : g' = s.gens := mv.gens
      obtain rfl : d' = s.drawn := mv.drawn
      obtain rfl : os' = s.os := mv.os
      refine wpAny_pure (wpAny_pure ⟨rfl, h', tk', c, rfl, hc, hS, fun b o z => ?_⟩)
      have lb := Heap.lt_size z
      refine mv.heap b o (fun hm => ?_) (Heap.get?_push_of_some _ (Heap.get?_push_of_some _ z))
      rcases List.mem_cons.mp hm with e | hm
      · exact absurd e (Nat.ne_of_lt lb)
      · have e := List.mem_singleton.mp hm
        rw [szp] at e
        exact absurd e (Nat.ne_of_lt (Nat.lt_succ_of_lt lb))
  · rcases r2 with e | fl2
    · exact hr2
    rcases fl2 with _ | _ | _ | r
    all_goals first | exact hr2.elim | skip
    obtain ⟨rfl, h', tk, c, rfl, hc, hS, hk⟩ := hr2
    repeat (any_goals (first | assumption | wp_step))
    exact fin _ _ _ hc hS hk
set_option maxHeartbeats 8000000 in
/-- set(l), l a list of keys -/
theorem set_of_list {l : Addr} {items : Array Value} {ks : List Key} {Q : Value → Shared → Prop} (hh : A.handled = none) (src : s.heap.IsList l items) (len : items.size = ks.length) (room : ks.length + 1 < scanBound)
    (val : ∀ (i : Nat) (v : Value), items[i]? = some v → ∃ k, ks[i]? = some k ∧ keyIs k v = true ∧ v.scannable = true)
    (fin : ∀ h' tk c, Cnt ks c → h'.SetOf (mixKind P w) s.heap.objs.size (memK ks) c → (∀ b o, s.heap.get? b = some o → h'.get? b = some o) → Q (.ref s.heap.objs.size) { s with heap := h', toks := tk }) :
    wpAny (model P w) A (call (.type "set") [.ref l]) Q E s := by
  have ⟨mc, mt, mro⟩ := F.called_set.mro; have made := F.called_set.made; have subs := F.called_set.sub
  refine wpAny_call (codeAny_of_tree ?_); show wpAny _ _ (callAny (.type "set") _) _ _ _
  refine wpAny_pure ⟨Code.quiet_builtin _ (by decide +kernel), codeAny_builtin F.entry_type_call ?_⟩; rw [Around.under_plain (weight_type_call_type "set" [.ref l] []) rfl]
  have f1 := F.called_set.notType; have f2 := F.called_set.canCreate; have f3 := F.typeCall_set_1 (.ref l)
  repeat (any_goals (first | assumption | wp_step))
  refine codeAny_mono (code_set_new_1 (.ref l) (E := E) (Q₁ := fun ob s1 => ∃ led : Bool, ob = .ref s.heap.objs.size ∧ s1 = { s with heap := s.heap.push (emptySet led) }) fun led => ⟨led, rfl, rfl⟩) fun r s1 hr => ?_
  rcases r with e | fl
  · exact hr
  rcases fl with _ | _ | _ | ob
  all_goals first | exact hr.elim | skip
  obtain ⟨led, rfl, rfl⟩ := hr
  have at0 : (s.heap.push (emptySet led)).get? s.heap.objs.size = some (emptySet led) := Heap.get?_push_size _ rfl
  have isS : Shared.TypeIs { s with heap := s.heap.push (emptySet led) } (.ref s.heap.objs.size) "set" := ⟨_, at0, rfl⟩
  have f4 := F.called_set.init.lookup; have f5 := F.called_set.init.bind (.ref s.heap.objs.size)
  repeat (any_goals (first | assumption | wp_step))
  refine codeAny_mono (codeAny_call_builtin (R := wants (fun r s2 => r = .none ∧ ∃ h' tk c, s2 = { s with heap := h', toks := tk } ∧ Cnt ks c ∧ h'.SetOf (mixKind P w) s.heap.objs.size (memK ks) c ∧ ∀ b o, s.heap.get? b = some o → h'.get? b = some o) E)
    F.called_set.init.plain F.entry_set_init (check_set_init_1 isS ?_)) fun r2 s2 hr2 => ?_
  · obtain ⟨ol, atl, cl, nl, dl⟩ := src; obtain ⟨oc, od, odt, osl⟩ := ol; simp only at cl dl; subst cl dl
    have ltl : l < s.heap.objs.size := Heap.lt_size atl
    have at1 : (s.heap.push (emptySet led)).get? l = some { cls := .type "list", dict := od, data := .seq items nl, slots := osl } := Heap.get?_push_of_some _ atl
    have g1 := F.sub_list_set; have g2 := F.sub_list_frozenset; have g3 : (Value.type "list" == Value.type "dict") = false := by decide
    have src1 : (s.heap.push (emptySet led)).IsList l items := ⟨_, at1, rfl, nl, rfl⟩
    have szp : (s.heap.push (emptySet led)).objs.size = s.heap.objs.size + 1 := Heap.size_push ..
    unfold Builtin.«set.__init__» noKeywords Builtin.Frozenset.updateFrom
    generalize keepIter : pyIter = PI
    wp_walk
    subst keepIter
    refine wpAny_pyIter_list src1 (wpAny_bind (wpAny_runValue ?_))
    have neI : l ≠ (s.heap.push (emptySet led)).objs.size := by rw [szp]; exact Nat.ne_of_lt (Nat.lt_succ_of_lt ltl)
    have notIn : s.heap.objs.size ∉ [(s.heap.push (emptySet led)).objs.size, l] := fun z => by
      rw [szp] at z
      rcases List.mem_cons.mp z with z | z
      · exact absurd z (Nat.ne_of_lt (Nat.lt_succ_self _))
      · exact absurd (List.mem_singleton.mp z).symm (Nat.ne_of_lt ltl)
    refine keys_loop ((Walks.list (show A.in1.in1.in1.handled = none by simp [hh]) _ l neI items).toS) s.heap.objs.size notIn ks len (by rw [len]; exact room) val (items.size - 0) 0 _ (by omega) (Nat.zero_le _)
      ⟨⟨_, Heap.get?_push_size _ rfl, rfl, rfl⟩, src1.push _⟩ ⟨0, .nil, ?_⟩ fun s' c mv hc hS => ?_
    · exact setOf_as (empty_setOf (led := led) (Heap.get?_push_of_some _ at0)) fun k => rfl
    · obtain ⟨h', g', d', tk', os'⟩ := s'
      obtain rfl : g' = s.gens := mv.gens
      obtain rfl : d' = s.drawn := mv.drawn
      obtain rfl : os' = s.os := mv.os
      refine wpAny_pure (wpAny_pure ⟨rfl, h', tk', c, rfl, hc, hS, fun b o z => ?_⟩)
      have lb := Heap.lt_size z
      refine mv.heap b o (fun hm => ?_) (Heap.get?_push_of_some _ (Heap.get?_push_of_some _ z))
      rcases List.mem_cons.mp hm with e | hm
      · exact absurd e (Nat.ne_of_lt lb)
      · have e := List.mem_singleton.mp hm
        rw [szp] at e
        exact absurd e (Nat.ne_of_lt (Nat.lt_succ_of_lt lb))
  · rcases r2 with e | fl2
    · exact hr2
    rcases fl2 with _ | _ | _ | r
    all_goals first | exact hr2.elim | skip
    obtain ⟨rfl, h', tk, c, rfl, hc, hS, hk⟩ := hr2
    repeat (any_goals (first | assumption | wp_step))
    exact fin _ _ _ hc hS hk
end
section
variable {X : Cx}
theorem keys_val : ∀ {ks : List Key} {us : List Value}, Vals (ks.map kV) us → ∀ (i : Nat) (v : Value), us[i]? = some v → ∃ k, ks[i]? = some k ∧ keyIs k v = true ∧ v.scannable = true
  | [], _, .nil, i, v, h => by simp at h
  | k :: ks, _, .cons r t, 0, v, h => by
    have e := Option.some.inj h
    subst e
    exact ⟨k, rfl, by cases k with | inl i => obtain ⟨t, rfl⟩ := r; exact keyIs_int i t | inr x => obtain ⟨t, rfl⟩ := r; exact keyIs_str x t, key_scan r⟩
  | k :: ks, _, .cons r t, i + 1, v, h => keys_val t i v h
/-- set(xs), xs a list or a tuple of ints and texts -/
def rSetK (K : PySem.W.Frag) (P : Program) (w : World) : List V → Hp → VK → Prop := fun xs H Q => ∃ (l : Addr) (ks : List Key), xs = [V.ref l] ∧ (SqL K H l (ks.map kV) ∨ SqT K H l (ks.map kV)) ∧ ks.length ≤ 4000 ∧
  ∀ p c, H p = none → Cnt ks c → Q (.ref p) (upd H p (SetK P w p (memK ks) c))
theorem cr_setK (hc : X.calm = true) : CallR X (.type "set") (rSetK X.K X.prog X.w) := by
  intro pins s σ H xs us Q I r h
  obtain ⟨l, ks, rfl, hq, few, q⟩ := h
  rw [Vals.ref1 r]
  have new := I.hok.fresh (Nat.le_refl s.heap.objs.size)
  have small : ks.length + 1 < scanBound := Nat.lt_of_le_of_lt (Nat.succ_le_succ few) (by decide)
  rcases hq with hq | hq
  · obtain ⟨its, rv, pl, hz⟩ := I.list hq
    refine set_of_list (I.ok.hd hc) pl.isList (by rw [List.size_toArray, ← rv.length, List.length_map]) small (fun i v hv => keys_val rv i v (by simpa using hv)) fun h' tk c hcn hS k => ?_
    exact ⟨.ref s.heap.objs.size, upd H s.heap.objs.size (SetK X.prog X.w s.heap.objs.size (memK ks) c), I.laid (t' := tk) k (Nat.le_refl _) (setK_new hS), rfl, q _ c new hcn⟩
  · obtain ⟨its, rv, tp, hz⟩ := I.tuple hq
    refine set_of_tuple (I.ok.hd hc) (show s.heap.IsTuple l its.toArray from tp) (by rw [List.size_toArray, ← rv.length, List.length_map]) small (fun i v hv => keys_val rv i v (by simpa using hv)) fun h' tk c hcn hS k => ?_
    exact ⟨.ref s.heap.objs.size, upd H s.heap.objs.size (SetK X.prog X.w s.heap.objs.size (memK ks) c), I.laid (t' := tk) k (Nat.le_refl _) (setK_new hS), rfl, q _ c new hcn⟩
/-- len of a set of keys -/
def rLenSK (P : Program) (w : World) : List V → Hp → VK → Prop := fun xs H Q => ∃ (a : Addr) (S : Key → Bool) (n : Nat), xs = [V.ref a] ∧ H a = some (SetK P w a S n) ∧ Q (.int n) H
theorem call_lenSK : CallR X (.builtin "len") (rLenSK X.prog X.w) := by
  intro pins s σ H xs us Q I r h
  obtain ⟨a, S, n, rfl, ha, q⟩ := h
  rw [Vals.ref1 r]
  obtain ⟨o, es, ep, t, ho, hex, hd, _, _, hb, hf, hn⟩ := setK_get I ha
  have fit : (es.size : Int) < 2 ^ 63 := by
    have h1 : es.size < 4096 := hb
    omega
  exact call_len_set ho hex hd hf fit ⟨.int n, H, I.tok _, ⟨_, by rw [hn]⟩, q⟩
end
/-! ### formulas as data -/
inductive Hd where
  | rel (n : Str) (as : List Str)
  | eq (x y : Str)
  | less (x y : Str)
  | no
  | con
  | dis
  | ex (vs : List Str)
  | al (vs : List Str)
  | lfp (n : Str) (vs as : List Str)
  | pfp (n : Str) (vs as : List Str)
  | tc (vs as : List Str)
  | gs (n : Str) (k : Nat)
inductive Fm where
  | mk (h : Hd) (ps : List Fm)
theorem Fm.ind {P : Fm → Prop} (step : ∀ h ps, (∀ p, p ∈ ps → P p) → P (.mk h ps)) : ∀ f, P f := fun f =>
  Fm.rec (motive_1 := P) (motive_2 := fun ps => ∀ p, p ∈ ps → P p) (fun h ps ih => step h ps ih) (fun _ hp => nomatch hp)
    (fun q qs h1 h2 p hp => (List.mem_cons.mp hp).elim (fun e => e ▸ h1) (h2 p)) f
mutual
def Fm.fold {α : Type} (g : Hd → List α → α) : Fm → α
  | .mk h ps => g h (Fm.folds g ps)
def Fm.folds {α : Type} (g : Hd → List α → α) : List Fm → List α
  | [] => []
  | p :: ps => Fm.fold g p :: Fm.folds g ps
end
theorem Fm.folds_map {α : Type} (g : Hd → List α → α) : ∀ ps : List Fm, Fm.folds g ps = ps.map (Fm.fold g)
  | [] => by rw [Fm.folds]; rfl
  | p :: ps => by rw [Fm.folds, Fm.folds_map g ps]; rfl
theorem Fm.fold_mk {α : Type} (g : Hd → List α → α) (h : Hd) (ps : List Fm) : Fm.fold g (.mk h ps) = g h (ps.map (Fm.fold g)) := by
  rw [Fm.fold, Fm.folds_map]
def Fm.hd : Fm → Hd
  | .mk h _ => h
def Fm.parts : Fm → List Fm
  | .mk _ ps => ps
/-! heads -/
def tS (as : List Str) : PyData := .tuple (as.map PyData.str)
inductive Kd where
  | rel
  | eq
  | less
  | no
  | con
  | dis
  | ex
  | al
  | lfp
  | pfp
  | tc
  | gs
  deriving DecidableEq
def Kd.word : Kd → Str
  | .rel => "rel"
  | .eq => "eq"
  | .less => "less"
  | .no => "not"
  | .con => "and"
  | .dis => "or"
  | .ex => "some"
  | .al => "all"
  | .lfp => "lfp"
  | .pfp => "pfp"
  | .tc => "tc"
  | .gs => "guess"
def Hd.kd : Hd → Kd
  | .rel _ _ => .rel
  | .eq _ _ => .eq
  | .less _ _ => .less
  | .no => .no
  | .con => .con
  | .dis => .dis
  | .ex _ => .ex
  | .al _ => .al
  | .lfp _ _ _ => .lfp
  | .pfp _ _ _ => .pfp
  | .tc _ _ => .tc
  | .gs _ _ => .gs
abbrev Hd.word (h : Hd) : Str := h.kd.word
/-- what stands behind the word -/
def Hd.rest (h : Hd) (ds : List PyData) : List PyData := match h with
  | .rel n as => [.str n, tS as]
  | .eq x y => [.str x, .str y]
  | .less x y => [.str x, .str y]
  | .no => ds
  | .con => [.tuple ds]
  | .dis => [.tuple ds]
  | .ex vs => tS vs :: ds
  | .al vs => tS vs :: ds
  | .lfp n vs as => .str n :: tS vs :: (ds ++ [tS as])
  | .pfp n vs as => .str n :: tS vs :: (ds ++ [tS as])
  | .tc vs as => tS vs :: (ds ++ [tS as])
  | .gs n k => .str n :: .int k :: ds
def Hd.data (h : Hd) (ds : List PyData) : PyData := .tuple (.str h.word :: h.rest ds)
def Fm.data : Fm → PyData := Fm.fold Hd.data
theorem Fm.data_mk (h : Hd) (ps : List Fm) : (Fm.mk h ps).data = h.data (ps.map Fm.data) := Fm.fold_mk _ h ps
/-- how many formulas stand directly in it (none: any number) -/
def Hd.one : Hd → Option Nat
  | .rel _ _ => some 0
  | .eq _ _ => some 0
  | .less _ _ => some 0
  | .con => none
  | .dis => none
  | _ => some 1
def Hd.own : Hd → List Str
  | .ex vs => vs
  | .al vs => vs
  | .lfp _ vs _ => vs
  | .pfp _ vs _ => vs
  | .tc vs _ => vs
  | _ => []
def Hd.args : Hd → List Str
  | .rel _ as => as
  | .eq x y => [x, y]
  | .less x y => [x, y]
  | .lfp _ _ as => as
  | .pfp _ _ as => as
  | .tc _ as => as
  | _ => []
def Hd.bound : Hd → Option (Str × Nat)
  | .lfp n vs _ => some (n, vs.length)
  | .pfp n vs _ => some (n, vs.length)
  | .gs n k => some (n, k)
  | _ => none
def Names (vs : List Str) : Prop := ∀ v, v ∈ vs → Nm v
def OwnOk (vs : List Str) : Prop := 1 ≤ vs.length ∧ vs.length ≤ 6 ∧ Names vs ∧ vs.Nodup
/-- a head with n formulas in it is well formed -/
def Hd.Ok (h : Hd) (n : Nat) : Prop := match h with
  | .rel m as => Nm m ∧ as.length ≤ 6 ∧ Names as ∧ n = 0
  | .eq x y => Nm x ∧ Nm y ∧ n = 0
  | .less x y => Nm x ∧ Nm y ∧ n = 0
  | .no => n = 1
  | .con => n ≤ 40
  | .dis => n ≤ 40
  | .ex vs => OwnOk vs ∧ n = 1
  | .al vs => OwnOk vs ∧ n = 1
  | .lfp m vs as => Nm m ∧ OwnOk vs ∧ as.length = vs.length ∧ Names as ∧ n = 1
  | .pfp m vs as => Nm m ∧ OwnOk vs ∧ as.length = vs.length ∧ Names as ∧ n = 1
  | .tc vs as => (vs.length = 2 ∨ vs.length = 4 ∨ vs.length = 6 ∨ vs.length = 8) ∧ Names vs ∧ vs.Nodup ∧ as.length = vs.length ∧ Names as ∧ n = 1
  | .gs m k => Nm m ∧ k ≤ 3 ∧ n = 1
/-! measures -/
def sumN (xs : List Nat) : Nat := xs.foldr (· + ·) 0
def maxN (xs : List Nat) : Nat := xs.foldr max 0
def Fm.cnt : Fm → Nat := Fm.fold fun _ xs => 1 + sumN xs
def Fm.dep : Fm → Nat := Fm.fold fun _ xs => 1 + maxN xs
theorem Fm.cnt_mk (h : Hd) (ps : List Fm) : (Fm.mk h ps).cnt = 1 + sumN (ps.map Fm.cnt) := Fm.fold_mk _ h ps
theorem Fm.dep_mk (h : Hd) (ps : List Fm) : (Fm.mk h ps).dep = 1 + maxN (ps.map Fm.dep) := Fm.fold_mk _ h ps
theorem le_maxN : ∀ {xs : List Nat} {x : Nat}, x ∈ xs → x ≤ maxN xs
  | [], _, h => nomatch h
  | y :: ys, x, h => by
    show x ≤ max y (maxN ys)
    rcases List.mem_cons.mp h with e | h
    · rw [e]; exact Nat.le_max_left _ _
    · exact Nat.le_trans (le_maxN h) (Nat.le_max_right _ _)
theorem le_sumN : ∀ {xs : List Nat} {x : Nat}, x ∈ xs → x ≤ sumN xs
  | [], _, h => nomatch h
  | y :: ys, x, h => by
    show x ≤ y + sumN ys
    rcases List.mem_cons.mp h with e | h
    · omega
    · have := le_sumN h; omega
theorem dep_part {h : Hd} {ps : List Fm} {p : Fm} (hp : p ∈ ps) : p.dep < (Fm.mk h ps).dep := by
  rw [Fm.dep_mk]
  have := le_maxN (List.mem_map_of_mem (f := Fm.dep) hp)
  omega
theorem dep_pos (f : Fm) : 1 ≤ f.dep := by
  obtain ⟨h, ps⟩ := f
  rw [Fm.dep_mk]
  omega
/-- every head in it is well formed -/
inductive Fm.Ok : Fm → Prop
  | mk {h : Hd} {ps : List Fm} (a : h.Ok ps.length) (b : ∀ p, p ∈ ps → p.Ok) : (Fm.mk h ps).Ok
theorem Fm.Ok.hd_ {h : Hd} {ps : List Fm} (k : (Fm.mk h ps).Ok) : h.Ok ps.length := by cases k; assumption
theorem Fm.Ok.part {h : Hd} {ps : List Fm} (k : (Fm.mk h ps).Ok) {p : Fm} (hp : p ∈ ps) : p.Ok := by cases k with | mk a b => exact b p hp
theorem get_map {α β : Type} {f : α → β} {l : List α} {i : Nat} {y : β} (h : (l.map f)[i]? = some y) : ∃ x, l[i]? = some x ∧ y = f x := by
  rw [List.getElem?_map] at h
  cases e : l[i]? with
  | none => rw [e] at h; cases h
  | some x => rw [e] at h; exact ⟨x, rfl, (Option.some.inj h).symm⟩
/-! data in the heap -/
section
variable {K : PySem.W.Frag} {H H' : Hp}
theorem Same.sqt {a : Addr} {xs : List V} (e : Same H H') (h : SqT K H a xs) : SqT K H' a xs := by
  rcases h with (h | ⟨o, h⟩) | h
  · exact .inl (.inl (e _ _ h))
  · exact .inl (.inr ⟨o, e _ _ h⟩)
  · exact .inr h
mutual
theorem Dp.same (e : Same H H') : ∀ {v : V} {d : PyData}, Dp K H v d → Dp K H' v d
  | _, _, .non => .non
  | _, _, .bl b => .bl b
  | _, _, .int i => .int i
  | _, _, .str x => .str x
  | _, _, .lst h t => .lst (e.seq h) (DpAll.same e t)
  | _, _, .tup h t => .tup (Same.sqt e h) (DpAll.same e t)
theorem DpAll.same (e : Same H H') : ∀ {vs : List V} {ds : List PyData}, DpAll K H vs ds → DpAll K H' vs ds
  | _, _, .nil => .nil
  | _, _, .cons h t => .cons (Dp.same e h) (DpAll.same e t)
end
theorem Dp.tup_inv {v : V} {ds : List PyData} (h : Dp K H v (.tuple ds)) : ∃ a xs, v = .ref a ∧ SqT K H a xs ∧ DpAll K H xs ds := by
  cases h with | tup a b => exact ⟨_, _, rfl, a, b⟩
theorem Dp.lst_inv {v : V} {ds : List PyData} (h : Dp K H v (.list ds)) : ∃ a xs, v = .ref a ∧ SqL K H a xs ∧ DpAll K H xs ds := by
  cases h with | lst a b => exact ⟨_, _, rfl, a, b⟩
theorem Dp.str_inv {v : V} {z : Str} (h : Dp K H v (.str z)) : v = .str z := by cases h; rfl
theorem Dp.int_inv {v : V} {i : Int} (h : Dp K H v (.int i)) : v = .int i := by cases h; rfl
theorem Dp.bl_inv {v : V} {i : Bool} (h : Dp K H v (.bool i)) : v = .bl i := by cases h; rfl
theorem DpAll.cons_inv {vs : List V} {d : PyData} {ds : List PyData} (h : DpAll K H vs (d :: ds)) : ∃ v ws, vs = v :: ws ∧ Dp K H v d ∧ DpAll K H ws ds := by
  cases h with | cons a b => exact ⟨_, _, rfl, a, b⟩
theorem DpAll.nil_inv {vs : List V} (h : DpAll K H vs []) : vs = [] := by cases h; rfl
theorem DpAll.length : ∀ {vs : List V} {ds : List PyData}, DpAll K H vs ds → vs.length = ds.length
  | _, _, .nil => rfl
  | _, _, .cons _ t => congrArg Nat.succ (DpAll.length t)
theorem DpAll.get : ∀ {vs : List V} {ds : List PyData} {i : Nat} {d : PyData}, DpAll K H vs ds → ds[i]? = some d → ∃ v, vs[i]? = some v ∧ Dp K H v d
  | _, _, i, d, .nil, h => by simp at h
  | _, _, 0, d, .cons a t, h => by
    have e := Option.some.inj h
    subst e
    exact ⟨_, rfl, a⟩
  | _, _, i + 1, d, .cons a t, h => DpAll.get (i := i) t h
theorem DpAll.get' : ∀ {vs : List V} {ds : List PyData} {i : Nat} {v : V}, DpAll K H vs ds → vs[i]? = some v → ∃ d, ds[i]? = some d ∧ Dp K H v d
  | _, _, i, d, .nil, h => by simp at h
  | _, _, 0, d, .cons a t, h => by
    have e := Option.some.inj h
    subst e
    exact ⟨_, rfl, a⟩
  | _, _, i + 1, d, .cons a t, h => DpAll.get' (i := i) t h
theorem DpAll.append : ∀ {vs ws : List V} {ds es : List PyData}, DpAll K H vs ds → DpAll K H ws es → DpAll K H (vs ++ ws) (ds ++ es)
  | _, _, _, _, .nil, s => s
  | _, _, _, _, .cons a t, s => .cons a (DpAll.append t s)
theorem DpAll.strs : ∀ {vs : List V} {as : List Str}, DpAll K H vs (as.map PyData.str) → vs = as.map V.str
  | _, [], h => by rw [DpAll.nil_inv h]; rfl
  | _, a :: as, h => by
    obtain ⟨v, ws, rfl, h1, h2⟩ := DpAll.cons_inv h
    rw [Dp.str_inv h1, DpAll.strs h2]; rfl
theorem DpAll.of_strs : ∀ (as : List Str), DpAll K H (as.map V.str) (as.map PyData.str)
  | [] => .nil
  | a :: as => .cons (.str a) (DpAll.of_strs as)
theorem tS_inv {v : V} {as : List Str} (h : Dp K H v (tS as)) : ∃ a, v = .ref a ∧ SqT K H a (as.map V.str) := by
  obtain ⟨a, xs, rfl, h1, h2⟩ := Dp.tup_inv h
  rw [DpAll.strs h2] at h1
  exact ⟨a, rfl, h1⟩
theorem tS_of {a : Addr} {as : List Str} (h : SqT K H a (as.map V.str)) : Dp K H (.ref a) (tS as) := .tup h (DpAll.of_strs as)
/-- a formula's value: a tuple that begins with its word -/
theorem hd_inv {v : V} {h : Hd} {ds : List PyData} (q : Dp K H v (h.data ds)) : ∃ a xs, v = .ref a ∧ SqT K H a (.str h.word :: xs) ∧ DpAll K H xs (h.rest ds) := by
  obtain ⟨a, ys, rfl, h1, h2⟩ := Dp.tup_inv q
  obtain ⟨w, xs, rfl, h3, h4⟩ := DpAll.cons_inv h2
  rw [Dp.str_inv h3] at h1
  exact ⟨a, xs, rfl, h1, h4⟩
end
/-! ### the heap without the draws -/
def wo (d : Addr) (H : Hp) : Hp := fun b => if b = d then none else H b
theorem wo_ne {d b : Addr} {H : Hp} (h : b ≠ d) : wo d H b = H b := if_neg h
theorem wo_sub {d : Addr} {H : Hp} : Same (wo d H) H := fun b o e => by
  by_cases h : b = d
  · rw [show wo d H b = none from if_pos h] at e; cases e
  · rw [wo_ne h] at e; exact e
theorem wo_kp {d : Addr} {H H' : Hp} (k : Kp d H H') : Same (wo d H) (wo d H') := fun b o e => by
  by_cases h : b = d
  · rw [show wo d H b = none from if_pos h] at e; cases e
  · rw [wo_ne h] at e ⊢; exact k b o e h
theorem wo_same {d : Addr} {H H' : Hp} (k : Same H H') : Same (wo d H) (wo d H') := wo_kp (.of k)
theorem wo_at {d b : Addr} {H : Hp} {o : HO} (h : b ≠ d) (e : H b = some o) : wo d H b = some o := by rw [wo_ne h]; exact e
section
variable {K : PySem.W.Frag} {H : Hp}
theorem strsL {v : V} {as : List Str} (h : Dp K H v (.list (as.map PyData.str))) : ∃ a, v = .ref a ∧ SqL K H a (as.map V.str) := by
  obtain ⟨a, xs, rfl, h1, h2⟩ := Dp.lst_inv h
  rw [DpAll.strs h2] at h1
  exact ⟨a, rfl, h1⟩
theorem strsL_of {a : Addr} {as : List Str} (h : SqL K H a (as.map V.str)) : Dp K H (.ref a) (.list (as.map PyData.str)) := .lst h (DpAll.of_strs as)
end
theorem eraseIdx_map {α β : Type} (f : α → β) : ∀ (l : List α) (i : Nat), (l.map f).eraseIdx i = (l.eraseIdx i).map f
  | [], i => by simp
  | a :: r, 0 => by simp
  | a :: r, i + 1 => by simp [eraseIdx_map f r i]
theorem eraseIdx_perm {α : Type} : ∀ {l : List α} {i : Nat} {x : α}, l[i]? = some x → l.Perm (x :: l.eraseIdx i)
  | [], _, _, h => by simp at h
  | a :: r, 0, x, h => by have e := Option.some.inj h; rw [← e]; exact List.Perm.refl _
  | a :: r, i + 1, x, h => ((eraseIdx_perm (l := r) (i := i) h).cons a).trans (List.Perm.swap _ _ _)
theorem wo_none {d p : Addr} {H : Hp} (h : H p = none) : wo d H p = none := by
  unfold wo
  split
  · rfl
  · exact h
theorem wo_upd {d p : Addr} {H : Hp} {o : HO} (n : p ≠ d) : wo d (upd H p o) p = some o := by rw [wo_ne n, upd_same]
/-- a new object leaves all else -/
theorem kp_new {d p : Addr} {H H' : Hp} {o : HO} (k : Kp d H H') (np : H' p = none) : Kp d H (upd H' p o) := k.trans (.of (same_upd np))
/-- an object of one's own is changed: what stood before it was made stays -/
theorem kp_own {d p : Addr} {H H' : Hp} {o : HO} (k : Kp d H H') (np : H p = none) : Kp d H (upd H' p o) := fun b x e n => by
  rw [upd_ne (ne_of_none e np)]
  exact k b x e n
theorem bounds_ok {i : Int} {n : Nat} (h0 : 0 ≤ i) (h1 : i < n) (hn : n ≤ 1000) : -(2 ^ 63) ≤ i ∧ i < 2 ^ 63 := by omega
def spSomeOf (K : PySem.W.Frag) : Sp := fun vs H Q _ => ∃ (d l : Addr) (pv : V) (pool : List Str) (m : Nat), vs = [.ref d, pv, .int (m : Nat)] ∧ DrA H d l ∧ Dp K (wo d H) pv (.list (pool.map PyData.str)) ∧ m ≤ pool.length ∧ pool.length ≤ 20 ∧
  ∀ (H' : Hp) (r : Addr) (ch : List Str), DrA H' d l → Kp d H H' → Dp K (wo d H') (.ref r) (.list (ch.map PyData.str)) → ch.length = m → (∀ x, x ∈ ch → x ∈ pool) → (pool.Nodup → ch.Nodup) → Q (.ref r) H'
section
variable {P : Program} {w : World} {K : PySem.W.Frag} {mg : Str → Option Value} {base : Heap}
theorem sc_some_of : FnScope ["draws", "pool", "many", "left", "chosen", "k"] ["draws", "pool", "many"] (defScope (top 65)) := ⟨rfl, rfl, rfl, by decide +kernel, rfl, by decide +kernel, by decide +kernel⟩
theorem has_some_of (D : Def K mg "_law_some_of" ["draws", "pool", "many"] (top 65)) (T : Txt mg) (C1 : Has P w K mg base 2 "_law_draw" ["draws"] spDraw) : Has P w K mg base 3 "_law_some_of" ["draws", "pool", "many"] (spSomeOf K) := D.has fun f fd F => by
  obtain ⟨f1, fd1, G_law_draw, g_law_draw, k_law_draw, b_law_draw⟩ := C1
  refine F.ok sc_some_of (fun vs H Q E h => ?_) (fun cdv A outer s H vs Q E hr h => ?_)
  · obtain ⟨d, l, vp, pool, m, rfl, _⟩ := h; rfl
  · obtain ⟨d, l, vp, pool, m, rfl, dr, dp, hm, h20, q⟩ := h
    have R_law_draw : Room 2 _ := hr.mono (by decide)
    refine ⟨_, PSs.nox (pss_cons (ps_set (i := 3) sc_some_of.nd rfl (Or.inl rfl) (pe_callTy call_list_of (by rfl) T.n_list (by decide +kernel) (pa_cons (pv 1) pa_nil))) (pss_cons (ps_set (i := 4) sc_some_of.nd rfl (Or.inl rfl) (pe_lst pa_nil)) (pss_cons (ps_for PassesOwn.never rfl (pi_range1 (by rfl) T.n_range (pa_cons (pv 2) pa_nil)) (pg_name (i := 5) sc_some_of.nd rfl (Or.inl rfl)) (pss_one (ps_expr (pe_bm PySem.F.plainAttrs_list PySem.F.slot_list_append PySem.F.type_list_append mt_append (pv 4) (pa_cons (pe_bm PySem.F.plainAttrs_list PySem.F.slot_list_pop PySem.F.type_list_pop mt_popAt (pv 3) (pa_cons (pe_op op_mod (pe_call G_law_draw R_law_draw (by rfl) g_law_draw k_law_draw b_law_draw .nil pass0 (pa_cons (pv 0) pa_nil)) (pe_callB call_len_seq (by rfl) T.n_len PySem.boot_len (pa_cons (pv 3) pa_nil))) pa_nil)) pa_nil))))) (pss_one (ps_ret (pv 4)))))), ?_⟩
    obtain ⟨b, rfl, hb⟩ := strsL dp
    have hb' : SqL K H b (pool.map V.str) := wo_sub.seq hb
    refine ⟨_, rfl, b, _, rfl, .inl hb', fun e ne => ?_⟩
    obtain ⟨ned, nel⟩ := dr.ne ne
    have dr1 : DrA (upd H e (.lst (pool.map V.str))) d l := dr.same (same_upd ne)
    have k1 : Kp d H (upd H e (.lst (pool.map V.str))) := .of (same_upd ne)
    have he : (upd H e (.lst (pool.map V.str))) e = some (.lst (pool.map V.str)) := upd_same
    revert dr1 k1 he
    generalize upd H e (.lst (pool.map V.str)) = H1
    intro dr1 k1 he
    refine ⟨Nat.zero_le _, fun c nc => ?_⟩
    obtain ⟨ncd, ncl⟩ := dr1.ne nc
    have nce : e ≠ c := ne_of_none he nc
    have nc0 : H c = none := k1.free ncd nc
    refine ⟨_, rfl, m, rfl, by omega, by omega, for_range (n := m) (fun i σ H2 => ∃ (y5 : Option V) (rem ch : List Str), σ = [some (.ref d), some (.ref b), some (.int (m : Nat)), some (.ref e), some (.ref c), y5] ∧ DrA H2 d l ∧ Kp d H H2 ∧
      H2 e = some (.lst (rem.map V.str)) ∧ H2 c = some (.lst (ch.map V.str)) ∧ ch.length = i ∧ rem.length + i = pool.length ∧ pool.Perm (ch ++ rem))
      ⟨none, pool, [], rfl, dr1.same (same_upd nc), kp_new k1 nc, by rw [upd_ne nce]; exact he, upd_same, rfl, rfl, List.Perm.refl _⟩ ?_ ?_⟩
    · rintro i σ H2 hi ⟨y5, rem, ch, rfl, dr2, k2, he2, hc2, hl, hrl, pm⟩
      refine ⟨_, rfl, .inl ⟨rfl, _, SqL.of hc2⟩, ?_⟩
      refine ⟨_, rfl, .inl ⟨rfl, _, SqL.of he2⟩, ?_⟩
      refine ⟨_, rfl, d, l, rfl, dr2, fun z H3 z0 z1 dr3 k3 => ?_⟩
      have he3 := k3 _ _ he2 ned
      have hc3 := k3 _ _ hc2 ncd
      have rl : 0 < rem.length := by omega
      have i0 : 0 ≤ z % (rem.length : Int) := Int.emod_nonneg _ (by omega)
      have i1 : z % (rem.length : Int) < (rem.length : Int) := Int.emod_lt_of_pos _ (by omega)
      have il : (z % (rem.length : Int)).toNat < rem.length := by omega
      obtain ⟨x, hx⟩ : ∃ x, rem[(z % (rem.length : Int)).toNat]? = some x := ⟨_, List.getElem?_eq_getElem il⟩
      refine ⟨_, rfl, e, _, rfl, .inl (SqL.of he3), _, _, rfl, rfl, (by show (0 : Int) < (((rem.map V.str).length : Nat) : Int); rw [List.length_map]; omega), ?_⟩
      rw [List.length_map]
      refine ⟨e, _, _, (z % (rem.length : Int)).toNat, .str x, rfl, rfl, he3, by omega, by omega, by rw [List.length_map]; exact seqIndex_of i0 i1, by rw [List.getElem?_map, hx]; rfl, ?_⟩
      have hc4 : (upd H3 e (.lst ((rem.map V.str).eraseIdx (z % (rem.length : Int)).toNat))) c = some (.lst (ch.map V.str)) := by rw [upd_ne nce.symm]; exact hc3
      refine ⟨c, _, _, rfl, rfl, hc4, ?_, ?_⟩
      · rw [List.length_map]
        exact small1000 (by omega)
      · refine ⟨_, rem.eraseIdx (z % (rem.length : Int)).toNat, ch ++ [x], rfl, ?_, ?_, ?_, ?_, ?_, ?_, ?_⟩
        · exact (dr3.kp Kp.upd ⟨ned, nel⟩).kp Kp.upd ⟨ncd, ncl⟩
        · exact kp_own (kp_own (k2.trans k3) ne) nc0
        · rw [upd_ne nce, upd_same, eraseIdx_map]
        · rw [upd_same, List.map_append]
          rfl
        · rw [List.length_append, hl]; rfl
        · rw [List.length_eraseIdx_of_lt il]; omega
        · refine pm.trans ?_
          have p2 := eraseIdx_perm hx
          have p3 : (ch ++ rem).Perm (ch ++ (x :: rem.eraseIdx (z % (rem.length : Int)).toNat)) := List.Perm.append_left ch p2
          rw [List.append_assoc]
          exact p3
    · rintro σ H2 ⟨y5, rem, ch, rfl, dr2, k2, he2, hc2, hl, hrl, pm⟩
      refine ⟨_, rfl, q H2 c ch dr2 k2 (strsL_of (SqL.of (wo_at ncd hc2))) hl (fun x hx => pm.mem_iff.mpr (List.mem_append_left _ hx)) fun nd => ?_⟩
      exact (List.nodup_append.mp (pm.nodup_iff.mp nd)).1
end
/-! ### rules within a comprehension -/
section
variable {X : Cx} {K : PySem.W.Frag}
theorem ix_listK (h : X.K = K) : IxR X (rIxL K) := h ▸ ix_list
theorem ix_tupK (h : X.K = K) : IxR X (rIxT K) := h ▸ ix_tup
theorem sl_listK (h : X.K = K) : SlR X (rSlL K) := h ▸ sl_list
theorem op_in_seqK (h : X.K = K) : OpR X (compareOp .In) (rIn K false) := h ▸ op_in_seq
theorem op_notIn_seqK (h : X.K = K) : OpR X (compareOp .NotIn) (rIn K true) := h ▸ op_notIn_seq
theorem call_len_seqK (h : X.K = K) : CallR X (.builtin "len") (fun xs H Q => ∃ p ys, xs = [.ref p] ∧ (SqL K H p ys ∨ SqT K H p ys) ∧ Q (.int ys.length) H) := h ▸ call_len_seq
end
/-! ### data that the draws are no part of -/
def int1 : List PyData → Bool
  | _ :: .int _ :: _ => false
  | _ => true
mutual
def good : PyData → Bool
  | .list ts => goods ts && int1 ts
  | .tuple ts => goods ts
  | _ => true
def goods : List PyData → Bool
  | [] => true
  | t :: ts => good t && goods ts
end
theorem goods_cons {t : PyData} {ts : List PyData} : goods (t :: ts) = (good t && goods ts) := by rw [goods]
theorem goods_append : ∀ (ts us : List PyData), goods (ts ++ us) = (goods ts && goods us)
  | [], us => by rw [goods]; rfl
  | t :: ts, us => by rw [List.cons_append, goods_cons, goods_cons, goods_append ts us, Bool.and_assoc]
theorem goods_all : ∀ {ts : List PyData}, (∀ t, t ∈ ts → good t = true) → goods ts = true
  | [], _ => by rw [goods]
  | t :: ts, h => by
    rw [goods_cons, h t (List.mem_cons_self ..), goods_all fun u hu => h u (List.mem_cons_of_mem _ hu)]; rfl
theorem good_str {z : Str} : good (.str z) = true := by rw [good]; all_goals (intros; contradiction)
theorem good_int {z : Int} : good (.int z) = true := by rw [good]; all_goals (intros; contradiction)
theorem good_tup {ts : List PyData} (h : goods ts = true) : good (.tuple ts) = true := by rw [good]; exact h
theorem good_lst {ts : List PyData} (h : goods ts = true) (n : ∀ t, t ∈ ts → ∀ i : Int, t ≠ .int i) : good (.list ts) = true := by
  rw [good, h]
  cases ts with
  | nil => rfl
  | cons a r =>
    cases r with
    | nil => rfl
    | cons b r =>
      cases b with
      | int i => exact absurd rfl (n (.int i) (by simp) i)
      | _ => rfl
theorem goods_strs (as : List Str) : goods (as.map PyData.str) = true := goods_all fun t ht => by
  obtain ⟨z, _, rfl⟩ := List.mem_map.mp ht
  exact good_str
theorem good_tS (as : List Str) : good (tS as) = true := good_tup (goods_strs as)
theorem good_strl (as : List Str) : good (.list (as.map PyData.str)) = true := good_lst (goods_strs as) fun t ht i e => by
  obtain ⟨z, _, rfl⟩ := List.mem_map.mp ht
  cases e
theorem good_hd {h : Hd} {ds : List PyData} (g : goods ds = true) : good (h.data ds) = true := by
  refine good_tup ?_
  rw [goods_cons, good_str]
  have n0 : goods [] = true := by rw [goods]
  cases h <;> simp only [Hd.rest, goods_cons, goods_append, good_str, good_int, good_tS, g, n0, good_tup g, Bool.and_self, Bool.true_and]
theorem Fm.good : ∀ f : Fm, SaysoV.good f.data = true := Fm.ind fun h ps ih => by
  rw [Fm.data_mk]
  refine good_hd (goods_all fun t ht => ?_)
  obtain ⟨p, hp, rfl⟩ := List.mem_map.mp ht
  exact ih p hp
section
variable {K : PySem.W.Frag} {H H' : Hp} {d l : Addr} {n : Int}
theorem SqT.wo {a : Addr} {xs ys : List V} (h1 : H d = some (.lst ys)) (h : SqT K H a xs) : SqT K (wo d H) a xs := by
  have ne : ∀ {o : HO}, H a = some o → (∀ zs, o ≠ .lst zs) → a ≠ d := fun e k z => by
    rw [z, h1] at e
    exact k ys (Option.some.inj e).symm
  rcases h with (h | ⟨o, h⟩) | h
  · exact .inl (.inl (by rw [wo_ne (ne h fun zs z => nomatch z)]; exact h))
  · exact .inl (.inr ⟨o, by rw [wo_ne (ne h fun zs z => nomatch z)]; exact h⟩)
  · exact .inr h
theorem SqL.wo {a : Addr} {xs ys : List V} (h1 : H d = some (.lst ys)) (n : xs ≠ ys) (h : SqL K H a xs) : SqL K (wo d H) a xs := by
  rcases h with (h | ⟨o, h⟩) | h
  · refine .inl (.inl ?_)
    by_cases e : a = d
    · rw [e, h1] at h
      exact absurd (HO.lst.inj (Option.some.inj h)).symm n
    · rw [wo_ne e]; exact h
  · refine .inl (.inr ⟨o, ?_⟩)
    by_cases e : a = d
    · rw [e, h1] at h
      cases h
    · rw [wo_ne e]; exact h
  · exact .inr h
theorem no_ints {l : Addr} {n : Int} {ds : List PyData} (t : DpAll K H [.ref l, .int n] ds) : good (.list ds) = false := by
  cases t with
  | cons a t =>
    cases t with
    | cons b t =>
      cases t
      cases b
      rw [good]
      exact Bool.and_false _
mutual
theorem Dp.woG (h1 : H d = some (.lst [.ref l, .int n])) : ∀ {v : V} {t : PyData}, Dp K H v t → good t = true → Dp K (wo d H) v t
  | _, _, .non, _ => .non
  | _, _, .bl b, _ => .bl b
  | _, _, .int i, _ => .int i
  | _, _, .str x, _ => .str x
  | _, _, .lst h t, g => .lst (SqL.wo h1 (fun z => by rw [z] at t; rw [no_ints t] at g; cases g) h) (DpAll.woG h1 t (by rw [good] at g; exact (Bool.and_eq_true_iff.mp g).1))
  | _, _, .tup h t, g => .tup (SqT.wo h1 h) (DpAll.woG h1 t (by rw [good] at g; exact g))
theorem DpAll.woG (h1 : H d = some (.lst [.ref l, .int n])) : ∀ {vs : List V} {ts : List PyData}, DpAll K H vs ts → goods ts = true → DpAll K (wo d H) vs ts
  | _, _, .nil, _ => .nil
  | _, _, .cons h t, g => .cons (Dp.woG h1 h (by rw [goods_cons] at g; exact (Bool.and_eq_true_iff.mp g).1)) (DpAll.woG h1 t (by rw [goods_cons] at g; exact (Bool.and_eq_true_iff.mp g).2))
end
theorem Dp.wod {v : V} {t : PyData} (r : DrA H d l) (h : Dp K H v t) (g : good t = true) : Dp K (SaysoV.wo d H) v t := by
  obtain ⟨n, ms, h1, _⟩ := r
  exact Dp.woG h1 h g
/-- a draw leaves it -/
theorem Dp.kpA {v : V} {t : PyData} (h : Dp K H v t) (r : DrA H d l) (g : good t = true) (k : Kp d H H') : Dp K H' v t := Dp.same wo_sub (Dp.same (wo_kp k) (Dp.wod r h g))
theorem DpAll.kpA {vs : List V} {ts : List PyData} (h : DpAll K H vs ts) (r : DrA H d l) (g : goods ts = true) (k : Kp d H H') : DpAll K H' vs ts := by
  obtain ⟨n, ms, h1, _⟩ := r
  exact DpAll.same wo_sub (DpAll.same (wo_kp k) (DpAll.woG h1 h g))
end
/-! data without lists: whatever becomes of lists, it stays -/
mutual
def noL : PyData → Bool
  | .list _ => false
  | .tuple ts => noLs ts
  | _ => true
def noLs : List PyData → Bool
  | [] => true
  | t :: ts => noL t && noLs ts
end
theorem noLs_cons {t : PyData} {ts : List PyData} : noLs (t :: ts) = (noL t && noLs ts) := by rw [noLs]
theorem noLs_append : ∀ (ts us : List PyData), noLs (ts ++ us) = (noLs ts && noLs us)
  | [], us => by rw [noLs]; rfl
  | t :: ts, us => by rw [List.cons_append, noLs_cons, noLs_cons, noLs_append ts us, Bool.and_assoc]
theorem noLs_all : ∀ {ts : List PyData}, (∀ t, t ∈ ts → noL t = true) → noLs ts = true
  | [], _ => by rw [noLs]
  | t :: ts, h => by
    rw [noLs_cons, h t (List.mem_cons_self ..), noLs_all fun u hu => h u (List.mem_cons_of_mem _ hu)]; rfl
theorem noL_str {z : Str} : noL (.str z) = true := by rw [noL]; all_goals (intros; contradiction)
theorem noL_int {z : Int} : noL (.int z) = true := by rw [noL]; all_goals (intros; contradiction)
theorem noL_tup {ts : List PyData} (h : noLs ts = true) : noL (.tuple ts) = true := by rw [noL]; exact h
theorem noLs_strs (as : List Str) : noLs (as.map PyData.str) = true := noLs_all fun t ht => by
  obtain ⟨z, _, rfl⟩ := List.mem_map.mp ht
  exact noL_str
theorem noL_tS (as : List Str) : noL (tS as) = true := noL_tup (noLs_strs as)
theorem noL_hd {h : Hd} {ds : List PyData} (g : noLs ds = true) : noL (h.data ds) = true := by
  refine noL_tup ?_
  rw [noLs_cons, noL_str]
  have n0 : noLs [] = true := by rw [noLs]
  cases h <;> simp only [Hd.rest, noLs_cons, noLs_append, noL_str, noL_int, noL_tS, g, n0, noL_tup g, Bool.and_self, Bool.true_and]
theorem Fm.noL : ∀ f : Fm, SaysoV.noL f.data = true := Fm.ind fun h ps ih => by
  rw [Fm.data_mk]
  refine noL_hd (noLs_all fun t ht => ?_)
  obtain ⟨p, hp, rfl⟩ := List.mem_map.mp ht
  exact ih p hp
theorem fms_noL (ps : List Fm) : noLs (ps.map Fm.data) = true := noLs_all fun t ht => by
  obtain ⟨p, _, rfl⟩ := List.mem_map.mp ht
  exact p.noL
/-- all but lists stays -/
def Kl (H H' : Hp) : Prop := ∀ b o, H b = some o → (∀ ys, o ≠ .lst ys) → H' b = some o
theorem Kl.refl (H : Hp) : Kl H H := fun _ _ e _ => e
theorem Kl.of {H H' : Hp} (s : Same H H') : Kl H H' := fun b o e _ => s b o e
theorem Kl.trans {H H1 H2 : Hp} (a : Kl H H1) (b : Kl H1 H2) : Kl H H2 := fun c o e n => b c o (a c o e n) n
theorem Kl.kp {H H' : Hp} {d : Addr} {ys : List V} (k : Kp d H H') (h : H d = some (.lst ys)) : Kl H H' := fun b o e n => k b o e fun z => by
  rw [z, h] at e
  exact n ys (Option.some.inj e).symm
theorem Kl.dr {H H' : Hp} {d l : Addr} (k : Kp d H H') (r : DrA H d l) : Kl H H' := by
  obtain ⟨n, ms, h1, _⟩ := r
  exact .kp k h1
theorem Kl.upd {H : Hp} {p : Addr} {o : HO} {ys : List V} (h : H p = some (.lst ys)) : Kl H (L2.upd H p o) := fun b x e n => by
  rw [upd_ne fun z => by rw [z, h] at e; exact n ys (Option.some.inj e).symm]
  exact e
theorem Kl.new {H : Hp} {p : Addr} {o : HO} (h : H p = none) : Kl H (L2.upd H p o) := .of (same_upd h)
section
variable {K : PySem.W.Frag} {H H' : Hp}
theorem SqT.kl {a : Addr} {xs : List V} (k : Kl H H') (h : SqT K H a xs) : SqT K H' a xs := by
  rcases h with (h | ⟨o, h⟩) | h
  · exact .inl (.inl (k _ _ h fun zs z => nomatch z))
  · exact .inl (.inr ⟨o, k _ _ h fun zs z => nomatch z⟩)
  · exact .inr h
mutual
theorem Dp.kl (k : Kl H H') : ∀ {v : V} {t : PyData}, Dp K H v t → noL t = true → Dp K H' v t
  | _, _, .non, _ => .non
  | _, _, .bl b, _ => .bl b
  | _, _, .int i, _ => .int i
  | _, _, .str x, _ => .str x
  | _, _, .lst h t, g => by rw [noL] at g; cases g
  | _, _, .tup h t, g => .tup (SqT.kl k h) (DpAll.kl k t (by rw [noL] at g; exact g))
theorem DpAll.kl (k : Kl H H') : ∀ {vs : List V} {ts : List PyData}, DpAll K H vs ts → noLs ts = true → DpAll K H' vs ts
  | _, _, .nil, _ => .nil
  | _, _, .cons h t, g => .cons (Dp.kl k h (by rw [noLs_cons] at g; exact (Bool.and_eq_true_iff.mp g).1)) (DpAll.kl k t (by rw [noLs_cons] at g; exact (Bool.and_eq_true_iff.mp g).2))
end
end
/-! ### the lists of names: name, arity, mode -/
abbrev NE := Str × Nat × Nat
def nD (p : NE) : PyData := .tuple [.str p.1, .int p.2.1, .int p.2.2]
def nsD (ns : List NE) : PyData := .list (ns.map nD)
theorem good_nD (p : NE) : good (nD p) = true := good_tup (by rw [goods_cons, goods_cons, goods_cons, good_str, good_int, good_int, goods]; rfl)
theorem noL_nD (p : NE) : noL (nD p) = true := noL_tup (by rw [noLs_cons, noLs_cons, noLs_cons, noL_str, noL_int, noL_int, noLs]; rfl)
theorem ns_noL (ns : List NE) : noLs (ns.map nD) = true := noLs_all fun t ht => by
  obtain ⟨p, _, rfl⟩ := List.mem_map.mp ht
  exact noL_nD p
theorem good_nsD (ns : List NE) : good (nsD ns) = true := good_lst (goods_all fun t ht => by
  obtain ⟨z, _, rfl⟩ := List.mem_map.mp ht
  exact good_nD z) fun t ht i e => by
  obtain ⟨z, _, rfl⟩ := List.mem_map.mp ht
  cases e
def within (ns : List NE) (p : NE) : List NE := (ns.filter fun q => !decide (q.1 = p.1)) ++ [p]
def mode4 (a b c e : Nat) (m : Nat) : Nat := match m with
  | 0 => a
  | 1 => b
  | 2 => c
  | _ => e
def turned (ns : List NE) : List NE := ns.map fun p => (p.1, p.2.1, mode4 0 2 1 3 p.2.2)
def barred (ns : List NE) : List NE := ns.map fun p => (p.1, p.2.1, mode4 0 3 3 3 p.2.2)
section
variable {K : PySem.W.Frag} {H H' : Hp}
theorem nD_inv {v : V} {p : NE} (h : Dp K H v (nD p)) : ∃ t, v = .ref t ∧ SqT K H t [.str p.1, .int p.2.1, .int p.2.2] := by
  obtain ⟨a, xs, rfl, h1, h2⟩ := Dp.tup_inv h
  obtain ⟨v1, w1, rfl, e1, h2⟩ := DpAll.cons_inv h2
  obtain ⟨v2, w2, rfl, e2, h2⟩ := DpAll.cons_inv h2
  obtain ⟨v3, w3, rfl, e3, h2⟩ := DpAll.cons_inv h2
  rw [Dp.str_inv e1, Dp.int_inv e2, Dp.int_inv e3, DpAll.nil_inv h2] at h1
  exact ⟨a, rfl, h1⟩
theorem nD_of {t : Addr} {p : NE} (h : SqT K H t [.str p.1, .int p.2.1, .int p.2.2]) : Dp K H (.ref t) (nD p) := .tup h (.cons (.str _) (.cons (.int _) (.cons (.int _) .nil)))
theorem DpAll.snoc {vs : List V} {ds : List PyData} {v : V} {t : PyData} (h : DpAll K H vs ds) (e : Dp K H v t) : DpAll K H (vs ++ [v]) (ds ++ [t]) := DpAll.append h (.cons e .nil)
end
theorem filter_snoc {α : Type} {p : α → Bool} {l : List α} {i : Nat} {x : α} (h : l[i]? = some x) : (l.take (i + 1)).filter p = (l.take i).filter p ++ (if p x then [x] else []) := by
  rw [List.take_add_one, h, List.filter_append]
  congr 1
  show List.filter p [x] = _
  cases e : p x <;> simp [List.filter, e]
def spWithin (K : PySem.W.Frag) : Sp := fun vs H Q _ => ∃ (nv : V) (name : Str) (k m : Nat) (ns : List NE), vs = [nv, .str name, .int k, .int m] ∧ Dp K H nv (nsD ns) ∧ ns.length ≤ 100 ∧ ∀ (H' : Hp) (r : V), Same H H' → Dp K H' r (nsD (within ns (name, k, m))) → Q r H'
def spMode (K : PySem.W.Frag) (F : List NE → List NE) : Sp := fun vs H Q _ => ∃ (nv : V) (ns : List NE), vs = [nv] ∧ Dp K H nv (nsD ns) ∧ ns.length ≤ 100 ∧ (∀ p, p ∈ ns → p.2.2 ≤ 3) ∧ ∀ (H' : Hp) (r : V), Same H H' → Dp K H' r (nsD (F ns)) → Q r H'
section
variable {P : Program} {w : World} {K : PySem.W.Frag} {mg : Str → Option Value} {base : Heap}
theorem sc_within : FnScope ["names", "name", "arity", "mode", "one"] ["names", "name", "arity", "mode"] (defScope (top 67)) := ⟨rfl, rfl, rfl, by decide +kernel, rfl, by decide +kernel, by decide +kernel⟩
theorem has_within (D : Def K mg "_law_within" ["names", "name", "arity", "mode"] (top 67)) : Has P w K mg base 1 "_law_within" ["names", "name", "arity", "mode"] (spWithin K) := D.has fun f fd F => by
  refine F.ok sc_within (fun vs H Q E h => ?_) (fun cdv A outer s H vs Q E hr h => ?_)
  · obtain ⟨nv, name, k, m, ns, rfl, _⟩ := h; rfl
  · obtain ⟨nv, name, k, m, ns, rfl, dn, hl, q⟩ := h
    refine ⟨_, PSs.nox (pss_one (ps_ret (pe_op op_cat (pe_lc (own := [("one", 4)]) rfl sc_within.nd (pi_list (pv 0)) (blkOk_by (N := ["names", "name", "arity", "mode", "one"]) (sc := defScope (top 67)) (by decide +kernel)) (fun _ _ _ _ _ => (pg_name (i := 4) sc_within.nd rfl (Or.inl rfl))) (fun _ _ _ _ _ => (pts_one (pt_cmpR op_ne (pe_ix (ix_tupK (K := K) rfl) (pv 4) pe_int (fun _ _ => rfl)) (pv 1) (nomark _)))) (fun _ _ _ _ _ => (pv 4))) (pe_lst (pa_cons (pe_tup (pa_cons (pv 1) (pa_cons (pv 2) (pa_cons (pv 3) pa_nil)))) pa_nil))))), ?_⟩
    obtain ⟨a, xs, rfl, ha, hx⟩ := Dp.lst_inv dn
    refine ⟨_, rfl, a, rfl, ⟨_, ha⟩, fun L nL => ?_⟩
    refine lc_it (walk_list (K := K) (a := a) (xs := xs)) (fun i H2 => ∃ acc, H2 L = some (.lst acc) ∧ DpAll K H acc (((ns.take i).filter fun p => !decide (p.1 = name)).map nD) ∧ Same H H2) ⟨[], upd_same, .nil, same_upd nL⟩ (fun i H2 _ ⟨_, _, _, s2⟩ => s2.seq ha) ?_ ?_
    · rintro i y H2 H3 hi ⟨acc, hL, hacc, s2⟩ ⟨rfl, hy⟩
      obtain ⟨dd, hd, dpy⟩ := DpAll.get' hx hy
      obtain ⟨p, hp, rfl⟩ := get_map hd
      obtain ⟨t, rfl, ht⟩ := nD_inv dpy
      refine ⟨rfl, _, rfl, t, _, _, _, rfl, rfl, Same.sqt s2 ht, atI_nat (j := 0) rfl, _, rfl, rfl, _, rfl, ?_⟩
      have ed : decide (V.str p.1 = V.str name) = decide (p.1 = name) := decide_eq_decide.mpr ⟨fun y => V.str.inj y, fun y => congrArg V.str y⟩
      have ef := filter_snoc (p := fun p : NE => !decide (p.1 = name)) hp
      by_cases e : p.1 = name
      · refine cF (k := !decide (V.str p.1 = V.str name)) (by rw [ed, decide_eq_true e]; rfl) ⟨acc, hL, ?_, s2⟩
        rw [show (if (!decide (p.1 = name)) = true then [p] else []) = [] by simp [e], List.append_nil] at ef
        rw [ef]
        exact hacc
      · refine cT (k := !decide (V.str p.1 = V.str name)) (by rw [ed, decide_eq_false e]; rfl) ⟨_, rfl, _, hL, ?_, ?_⟩
        · have e1 := DpAll.length hacc
          rw [List.length_map] at e1
          have e2 := List.length_filter_le (fun p : NE => !decide (p.1 = name)) (ns.take i)
          have e3 := List.length_take_le' i ns
          exact small1000 (by omega)
        · refine ⟨_, upd_same, ?_, fun b o eb => by rw [upd_ne (ne_of_none eb nL)]; exact s2 _ _ eb⟩
          rw [show (if (!decide (p.1 = name)) = true then [p] else []) = [p] by simp [e]] at ef
          rw [ef, List.map_append]
          exact DpAll.snoc hacc (nD_of ht)
    · rintro H2 ⟨acc, hL, hacc, s2⟩
      have el : xs.length = ns.length := by rw [DpAll.length hx, List.length_map]
      rw [List.take_of_length_le (show ns.length ≤ xs.length by omega)] at hacc
      refine ⟨_, rfl, _, rfl, _, rfl, (by show 3 ≤ sizeLine; decide), fun t nt => ⟨(by show 1 ≤ sizeLine; decide), fun b nb => ?_⟩⟩
      have t1 : Same H2 (upd H2 t (.tup [.str name, .int k, .int m])) := same_upd nt
      have t2 := same_upd (o := .lst [.ref t]) nb
      refine ⟨L, b, acc, [.ref t], rfl, rfl, t2 _ _ (t1 _ _ hL), upd_same, ?_, fun p np => ?_⟩
      · have e1 := DpAll.length hacc
        rw [List.length_map] at e1
        have e2 := List.length_filter_le (fun p : NE => !decide (p.1 = name)) ns
        have := small1000 (n := acc.length + 1) (by omega)
        show acc.length + 1 ≤ sizeLine
        omega
      · have t3 := same_upd (o := .lst (acc ++ [.ref t])) np
        have s4 : Same H _ := ((s2.trans t1).trans t2).trans t3
        refine q _ _ s4 (.lst (.inl (.inl upd_same)) ?_)
        show DpAll K _ _ (((ns.filter fun q => !decide (q.1 = name)) ++ [(name, k, m)]).map nD)
        rw [List.map_append]
        exact DpAll.snoc (DpAll.same s4 hacc) (nD_of (Same.sqt t3 (Same.sqt t2 (.inl (.inl upd_same)))))
theorem mode_at {a b c e m : Nat} (h : m ≤ 3) : [V.int a, V.int b, V.int c, V.int e][m]? = some (.int (mode4 a b c e m : Nat)) := by
  match m, h with
  | 0, _ => rfl
  | 1, _ => rfl
  | 2, _ => rfl
  | 3, _ => rfl
theorem sc_turned : FnScope ["names", "one"] ["names"] (defScope (top 68)) := ⟨rfl, rfl, rfl, by decide +kernel, rfl, by decide +kernel, by decide +kernel⟩
theorem has_turned (D : Def K mg "_law_turned" ["names"] (top 68)) : Has P w K mg base 1 "_law_turned" ["names"] (spMode K turned) := D.has fun f fd F => by
  refine F.ok sc_turned (fun vs H Q E h => ?_) (fun cdv A outer s H vs Q E hr h => ?_)
  · obtain ⟨nv, ns, rfl, _⟩ := h; rfl
  · obtain ⟨nv, ns, rfl, dn, hl, hm, q⟩ := h
    refine ⟨_, PSs.nox (pss_one (ps_ret (pe_lc (own := [("one", 1)]) rfl sc_turned.nd (pi_list (pv 0)) (blkOk_by (N := ["names", "one"]) (sc := defScope (top 68)) (by decide +kernel)) (fun _ _ _ _ _ => (pg_name (i := 1) sc_turned.nd rfl (Or.inl rfl))) (fun _ _ _ _ _ => pts_nil) (fun _ _ _ _ _ => (pe_tup (pa_cons (pe_ix (ix_tupK (K := K) rfl) (pv 1) pe_int (fun _ _ => rfl)) (pa_cons (pe_ix (ix_tupK (K := K) rfl) (pv 1) pe_int (fun _ _ => rfl)) (pa_cons (pe_ix (ix_listK (K := K) rfl) (pe_lst (pa_cons pe_int (pa_cons pe_int (pa_cons pe_int (pa_cons pe_int pa_nil))))) (pe_ix (ix_tupK (K := K) rfl) (pv 1) pe_int (fun _ _ => rfl)) (fun _ _ => rfl)) pa_nil)))))))), ?_⟩
    obtain ⟨a, xs, rfl, ha, hx⟩ := Dp.lst_inv dn
    refine ⟨_, rfl, a, rfl, ⟨_, ha⟩, fun L nL => ?_⟩
    refine lc_it (walk_list (K := K) (a := a) (xs := xs)) (fun i H2 => ∃ acc, H2 L = some (.lst acc) ∧ DpAll K H2 acc ((turned (ns.take i)).map nD) ∧ Same H H2) ⟨[], upd_same, .nil, same_upd nL⟩ (fun i H2 _ ⟨_, _, _, s2⟩ => s2.seq ha) ?_ ?_
    · rintro i y H2 H3 hi ⟨acc, hL, hacc, s2⟩ ⟨rfl, hy⟩
      obtain ⟨dd, hd, dpy⟩ := DpAll.get' hx hy
      obtain ⟨p, hp, rfl⟩ := get_map hd
      obtain ⟨t, rfl, ht⟩ := nD_inv (Dp.same s2 dpy)
      have hm3 := hm p (List.mem_of_getElem? hp)
      refine ⟨rfl, _, rfl, t, _, _, _, rfl, rfl, ht, atI_nat (j := 0) rfl, ?_⟩
      refine ⟨_, rfl, t, _, _, _, rfl, rfl, ht, atI_nat (j := 1) rfl, ?_⟩
      refine ⟨(by show 4 ≤ sizeLine; decide), fun c nc => ?_⟩
      have t1 := same_upd (o := .lst [V.int 0, V.int 2, V.int 1, V.int 3]) nc
      refine ⟨_, rfl, t, _, _, _, rfl, rfl, Same.sqt t1 ht, atI_nat (j := 2) rfl, c, _, _, _, rfl, rfl, .inl (.inl upd_same), atI_nat (mode_at hm3), ?_⟩
      refine ⟨(by show 3 ≤ sizeLine; decide), fun e ne => ?_⟩
      have t2 := same_upd (o := .tup [.str p.1, .int p.2.1, .int (mode4 0 2 1 3 p.2.2 : Nat)]) ne
      have t12 := t1.trans t2
      refine ⟨acc, t12 _ _ hL, ?_, acc ++ [.ref e], upd_same, ?_, fun b o eb => by rw [upd_ne (ne_of_none eb nL)]; exact t12 _ _ (s2 _ _ eb)⟩
      · have e1 := DpAll.length hacc
        rw [List.length_map] at e1
        have e2 : (turned (ns.take i)).length = (ns.take i).length := List.length_map ..
        have e3 := List.length_take_le' i ns
        exact small1000 (by omega)
      · have et : turned (ns.take (i + 1)) = turned (ns.take i) ++ [(p.1, p.2.1, mode4 0 2 1 3 p.2.2)] := by
          rw [List.take_add_one, hp]
          exact List.map_append
        rw [et, List.map_append]
        have d2 : Dp K (upd (upd H3 c (.lst [V.int 0, V.int 2, V.int 1, V.int 3])) e (.tup [.str p.1, .int p.2.1, .int (mode4 0 2 1 3 p.2.2 : Nat)])) (.ref e) (nD (p.1, p.2.1, mode4 0 2 1 3 p.2.2)) := nD_of (.inl (.inl upd_same))
        exact DpAll.kl (Kl.upd (t12 _ _ hL)) (DpAll.snoc (DpAll.kl (.of t12) hacc (ns_noL _)) d2) (by rw [noLs_append, ns_noL, ns_noL]; rfl)
    · rintro H2 ⟨acc, hL, hacc, s2⟩
      have el : xs.length = ns.length := by rw [DpAll.length hx, List.length_map]
      rw [List.take_of_length_le (show ns.length ≤ xs.length by omega)] at hacc
      exact q H2 (.ref L) s2 (.lst (.inl (.inl hL)) hacc)
theorem sc_barred : FnScope ["names", "one"] ["names"] (defScope (top 69)) := ⟨rfl, rfl, rfl, by decide +kernel, rfl, by decide +kernel, by decide +kernel⟩
theorem has_barred (D : Def K mg "_law_barred" ["names"] (top 69)) : Has P w K mg base 1 "_law_barred" ["names"] (spMode K barred) := D.has fun f fd F => by
  refine F.ok sc_barred (fun vs H Q E h => ?_) (fun cdv A outer s H vs Q E hr h => ?_)
  · obtain ⟨nv, ns, rfl, _⟩ := h; rfl
  · obtain ⟨nv, ns, rfl, dn, hl, hm, q⟩ := h
    refine ⟨_, PSs.nox (pss_one (ps_ret (pe_lc (own := [("one", 1)]) rfl sc_barred.nd (pi_list (pv 0)) (blkOk_by (N := ["names", "one"]) (sc := defScope (top 69)) (by decide +kernel)) (fun _ _ _ _ _ => (pg_name (i := 1) sc_barred.nd rfl (Or.inl rfl))) (fun _ _ _ _ _ => pts_nil) (fun _ _ _ _ _ => (pe_tup (pa_cons (pe_ix (ix_tupK (K := K) rfl) (pv 1) pe_int (fun _ _ => rfl)) (pa_cons (pe_ix (ix_tupK (K := K) rfl) (pv 1) pe_int (fun _ _ => rfl)) (pa_cons (pe_ix (ix_listK (K := K) rfl) (pe_lst (pa_cons pe_int (pa_cons pe_int (pa_cons pe_int (pa_cons pe_int pa_nil))))) (pe_ix (ix_tupK (K := K) rfl) (pv 1) pe_int (fun _ _ => rfl)) (fun _ _ => rfl)) pa_nil)))))))), ?_⟩
    obtain ⟨a, xs, rfl, ha, hx⟩ := Dp.lst_inv dn
    refine ⟨_, rfl, a, rfl, ⟨_, ha⟩, fun L nL => ?_⟩
    refine lc_it (walk_list (K := K) (a := a) (xs := xs)) (fun i H2 => ∃ acc, H2 L = some (.lst acc) ∧ DpAll K H2 acc ((barred (ns.take i)).map nD) ∧ Same H H2) ⟨[], upd_same, .nil, same_upd nL⟩ (fun i H2 _ ⟨_, _, _, s2⟩ => s2.seq ha) ?_ ?_
    · rintro i y H2 H3 hi ⟨acc, hL, hacc, s2⟩ ⟨rfl, hy⟩
      obtain ⟨dd, hd, dpy⟩ := DpAll.get' hx hy
      obtain ⟨p, hp, rfl⟩ := get_map hd
      obtain ⟨t, rfl, ht⟩ := nD_inv (Dp.same s2 dpy)
      have hm3 := hm p (List.mem_of_getElem? hp)
      refine ⟨rfl, _, rfl, t, _, _, _, rfl, rfl, ht, atI_nat (j := 0) rfl, ?_⟩
      refine ⟨_, rfl, t, _, _, _, rfl, rfl, ht, atI_nat (j := 1) rfl, ?_⟩
      refine ⟨(by show 4 ≤ sizeLine; decide), fun c nc => ?_⟩
      have t1 := same_upd (o := .lst [V.int 0, V.int 3, V.int 3, V.int 3]) nc
      refine ⟨_, rfl, t, _, _, _, rfl, rfl, Same.sqt t1 ht, atI_nat (j := 2) rfl, c, _, _, _, rfl, rfl, .inl (.inl upd_same), atI_nat (mode_at hm3), ?_⟩
      refine ⟨(by show 3 ≤ sizeLine; decide), fun e ne => ?_⟩
      have t2 := same_upd (o := .tup [.str p.1, .int p.2.1, .int (mode4 0 3 3 3 p.2.2 : Nat)]) ne
      have t12 := t1.trans t2
      refine ⟨acc, t12 _ _ hL, ?_, acc ++ [.ref e], upd_same, ?_, fun b o eb => by rw [upd_ne (ne_of_none eb nL)]; exact t12 _ _ (s2 _ _ eb)⟩
      · have e1 := DpAll.length hacc
        rw [List.length_map] at e1
        have e2 : (barred (ns.take i)).length = (ns.take i).length := List.length_map ..
        have e3 := List.length_take_le' i ns
        exact small1000 (by omega)
      · have et : barred (ns.take (i + 1)) = barred (ns.take i) ++ [(p.1, p.2.1, mode4 0 3 3 3 p.2.2)] := by
          rw [List.take_add_one, hp]
          exact List.map_append
        rw [et, List.map_append]
        have d2 : Dp K (upd (upd H3 c (.lst [V.int 0, V.int 3, V.int 3, V.int 3])) e (.tup [.str p.1, .int p.2.1, .int (mode4 0 3 3 3 p.2.2 : Nat)])) (.ref e) (nD (p.1, p.2.1, mode4 0 3 3 3 p.2.2)) := nD_of (.inl (.inl upd_same))
        exact DpAll.kl (Kl.upd (t12 _ _ hL)) (DpAll.snoc (DpAll.kl (.of t12) hacc (ns_noL _)) d2) (by rw [noLs_append, ns_noL, ns_noL]; rfl)
    · rintro H2 ⟨acc, hL, hacc, s2⟩
      have el : xs.length = ns.length := by rw [DpAll.length hx, List.length_map]
      rw [List.take_of_length_le (show ns.length ≤ xs.length by omega)] at hacc
      exact q H2 (.ref L) s2 (.lst (.inl (.inl hL)) hacc)
end
/-! ### reading written dicts -/
section
variable {X : Cx} {o e : Expr} {td ty : TE} {apos cpos : Pos}
/-- d.get(k), d a dict of the module -/
def tKGet (K : PySem.W.Frag) (w : World) (td ty : TE) : TE := fun σ H Q => td σ H fun x H1 => ∃ p es n, x = .ref p ∧ KDict K w p es n ∧ ty σ H1 fun y H2 => ∃ (z : Str) (r : Option Value) (v : V), y = .str z ∧ PySem.W.nsIn K p z = some r ∧ RelV v (r.getD .none) ∧ Q v H2
theorem pe_kget (ho : PE X o td) (he : PE X e ty) (m : M1 X o "get" apos e cpos) : PE X (.Call (.Attribute o "get" apos) [e] [] cpos) (tKGet X.K X.w td ty) := by
  refine ⟨fun pins s σ H Q I h => ?_⟩
  refine wpAny_Call_method m.base m.few m.line PySem.F.plainAttrs_dict PySem.F.slot_dict_get PySem.F.type_dict_get (thn (ho.run pins s σ H _ I h) fun u s1 ⟨x, H1, I1, rx, p, es, n, ex, D, q1⟩ => ?_)
  subst ex
  obtain rfl : u = Value.ref p := rx
  refine ⟨kd_type D I1, fun b eb => by cases eb; exact ⟨_, I1.kIn _ _ D.at_, rfl⟩, ?_⟩
  rw [m.trees]
  refine Calls.callWith_builtin rfl (Calls.evalArgs_plain (Calls.spliced_cons (thn (he.run pins s1 σ H1 _ I1 q1) fun iv s2 ⟨y, H2, I2, ry, z, r, v, ey, en, rv, q2⟩ => Calls.spliced_nil ?_)))
  subst ey
  obtain ⟨t, rfl⟩ := ry
  refine call_meetsIn PySem.F.slot_dict_get (kd_type D I2) PySem.F.entry_dict_get (PySem.F.args_dict_get_2 _ _) (meets_dict_get (PySem.strKind X.prog X.w) p (PySem.strKind_is X.prog X.w z t) D.low) ⟨_, PySem.W.mapOf_K (prog := X.prog) I2.kIn D.at_ D.lit, ?_⟩
  rw [PySem.W.find_K D.at_ en]
  exact ⟨v, H2, I2.tok _, rv, q2⟩
end
/-- what the module's dict x holds under twelve words -/
structure KTab (K : PySem.W.Frag) (w : World) (mg : Str → Option Value) (x : Str) (kvs : List (Str × V)) : Prop where
  g : mg x = some (.ref (He.ga K x))
  d : ∃ es n, KDict K w (He.ga K x) es n
  there : ∀ k v, (k, v) ∈ kvs → ∃ u, PySem.W.nsIn K (He.ga K x) k = some (some u) ∧ RelV v u
def words12 : List Str := ["rel", "eq", "less", "not", "and", "or", "some", "all", "lfp", "pfp", "tc", "guess"]
def Miss (K : PySem.W.Frag) (x : Str) (ks : List Str) : Prop := ∀ k, k ∈ ks → PySem.W.nsIn K (He.ga K x) k = some none
theorem KTab.dct {K : PySem.W.Frag} {w : World} {mg : Str → Option Value} {x : Str} {kvs : List (Str × V)} (t : KTab K w mg x kvs) {k : Str} {v : V} (h : (k, v) ∈ kvs) : KDct K w (He.ga K x) k v := by
  obtain ⟨es, n, D⟩ := t.d
  obtain ⟨u, h1, h2⟩ := t.there k v h
  exact ⟨es, n, u, D.at_, D.lit, h1, h2⟩
/-! ### the tables of heads -/
def Kd.bodyAt : Kd → Option Nat
  | .no => some 1
  | .ex => some 2
  | .al => some 2
  | .lfp => some 3
  | .pfp => some 3
  | .tc => some 2
  | .gs => some 3
  | _ => none
def Kd.ownAt : Kd → Option Nat
  | .ex => some 1
  | .al => some 1
  | .lfp => some 2
  | .pfp => some 2
  | .tc => some 1
  | _ => none
def Kd.argsAt : Kd → Option Nat
  | .rel => some 2
  | .lfp => some 4
  | .pfp => some 4
  | .tc => some 3
  | _ => none
def Kd.many : Kd → Nat
  | .rel => 3
  | .eq => 3
  | .less => 3
  | .no => 2
  | .con => 2
  | .dis => 2
  | .ex => 3
  | .al => 3
  | .lfp => 5
  | .pfp => 5
  | .tc => 4
  | .gs => 4
def bodyTab : List (Str × V) := [("not", .int 1), ("some", .int 2), ("all", .int 2), ("lfp", .int 3), ("pfp", .int 3), ("tc", .int 2), ("guess", .int 3)]
def ownTab : List (Str × V) := [("some", .int 1), ("all", .int 1), ("lfp", .int 2), ("pfp", .int 2), ("tc", .int 1)]
def argsTab : List (Str × V) := [("rel", .int 2), ("lfp", .int 4), ("pfp", .int 4), ("tc", .int 3)]
def lenTab : List (Str × V) := [("rel", .int 3), ("eq", .int 3), ("less", .int 3), ("not", .int 2), ("and", .int 2), ("or", .int 2), ("some", .int 3), ("all", .int 3), ("lfp", .int 5), ("pfp", .int 5), ("tc", .int 4), ("guess", .int 4)]
def Kd.test : Kd → Str
  | .rel => "_is_rel"
  | .eq => "_is_comparison"
  | .less => "_is_comparison"
  | .no => "_is_negation"
  | .con => "_is_joined"
  | .dis => "_is_joined"
  | .ex => "_is_quantified"
  | .al => "_is_quantified"
  | .lfp => "_is_fixed_point"
  | .pfp => "_is_fixed_point"
  | .tc => "_is_closure"
  | .gs => "_is_guess"
def testTab (K : PySem.W.Frag) : List (Str × V) := [("rel", .ref (He.ga K "_is_rel")), ("eq", .ref (He.ga K "_is_comparison")), ("less", .ref (He.ga K "_is_comparison")), ("not", .ref (He.ga K "_is_negation")), ("and", .ref (He.ga K "_is_joined")), ("or", .ref (He.ga K "_is_joined")),
  ("some", .ref (He.ga K "_is_quantified")), ("all", .ref (He.ga K "_is_quantified")), ("lfp", .ref (He.ga K "_is_fixed_point")), ("pfp", .ref (He.ga K "_is_fixed_point")), ("tc", .ref (He.ga K "_is_closure")), ("guess", .ref (He.ga K "_is_guess"))]
/-- the constants of shapes -/
structure Shp (K : PySem.W.Frag) (w : World) (mg : Str → Option Value) : Prop where
  joined : ∃ t, mg "MOST_JOINED" = some (.int 40 t)
  guess : ∃ t, mg "LARGEST_GUESS" = some (.int 3 t)
  relG : mg "REL_COUNTS" = some (.ref (He.ga K "REL_COUNTS"))
  relC : ∀ H : Hp, SqT K H (He.ga K "REL_COUNTS") (([0, 1, 2, 3, 4, 5, 6] : List Int).map V.int)
  ownG : mg "OWN_COUNTS" = some (.ref (He.ga K "OWN_COUNTS"))
  ownC : ∀ H : Hp, SqT K H (He.ga K "OWN_COUNTS") (([1, 2, 3, 4, 5, 6] : List Int).map V.int)
  tcG : mg "TC_COUNTS" = some (.ref (He.ga K "TC_COUNTS"))
  tcC : ∀ H : Hp, SqT K H (He.ga K "TC_COUNTS") (([2, 4, 6, 8] : List Int).map V.int)
  lens : KTab K w mg "LENGTHS" lenTab
  body : KTab K w mg "BODY_AT" bodyTab
  own : KTab K w mg "OWN_AT" ownTab
  args : KTab K w mg "ARGUMENTS_AT" argsTab
  tests : KTab K w mg "TESTS" (testTab K)
  bodyM : Miss K "BODY_AT" ["rel", "eq", "less", "and", "or"]
  ownM : Miss K "OWN_AT" ["rel", "eq", "less", "not", "and", "or", "guess"]
  argsM : Miss K "ARGUMENTS_AT" ["eq", "less", "not", "and", "or", "some", "all", "guess"]
/-! ### the promises -/
/-- the number of formulas in it is right -/
def Hd.fits (h : Hd) (n : Nat) : Prop := ∀ k, h.one = some k → n = k
theorem Hd.Ok.fits {h : Hd} {n : Nat} (k : h.Ok n) : h.fits n := by
  intro m e
  cases h <;> first | (cases e; exact k.2.2) | (cases e; exact k.2.2.2) | (cases e; exact k) | (cases e; exact k.2) | (cases e; exact k.2.2.2.2) | (cases e; exact k.2.2.2.2.2) | cases e
/-- a function of a formula's head and parts that changes nothing -/
def spHd (K : PySem.W.Frag) (R : Hd → List PyData → V → Hp → Prop) : Sp := fun vs H Q _ => ∃ (v : V) (h : Hd) (ds : List PyData), vs = [v] ∧ Dp K H v (h.data ds) ∧ h.fits ds.length ∧ ∀ (H' : Hp) (r : V), Same H H' → R h ds r H' → Q r H'
abbrev spInner (K : PySem.W.Frag) : Sp := spHd K fun _ ds r H' => Dp K H' r (.tuple ds)
abbrev spOwn (K : PySem.W.Frag) : Sp := spHd K fun h _ r H' => Dp K H' r (tS h.own)
abbrev spArgs (K : PySem.W.Frag) : Sp := spHd K fun h _ r H' => Dp K H' r (tS h.args)
abbrev spBName (K : PySem.W.Frag) : Sp := spHd K fun h _ r _ => r = match h.bound with | some (n, _) => V.str n | none => .non
abbrev spBArity (K : PySem.W.Frag) : Sp := fun vs H Q _ => ∃ (v : V) (h : Hd) (ds : List PyData) (n : Str) (k : Nat), vs = [v] ∧ Dp K H v (h.data ds) ∧ h.bound = some (n, k) ∧ ∀ (H' : Hp), Same H H' → Q (.int k) H'
theorem body_mem : ∀ (k : Kd) (i : Nat), k.bodyAt = some i → (k.word, V.int (i : Nat)) ∈ bodyTab := by
  intro k i e
  cases k <;> first | (cases e; decide +kernel) | cases e
theorem body_mis : ∀ k : Kd, k.bodyAt = none → k.word ∈ (["rel", "eq", "less", "and", "or"] : List Str) := by
  intro k e
  cases k <;> first | decide +kernel | cases e
theorem own_mem : ∀ (k : Kd) (i : Nat), k.ownAt = some i → (k.word, V.int (i : Nat)) ∈ ownTab := by
  intro k i e
  cases k <;> first | (cases e; decide +kernel) | cases e
theorem own_mis : ∀ k : Kd, k.ownAt = none → k.word ∈ (["rel", "eq", "less", "not", "and", "or", "guess"] : List Str) := by
  intro k e
  cases k <;> first | decide +kernel | cases e
theorem args_mem : ∀ (k : Kd) (i : Nat), k.argsAt = some i → (k.word, V.int (i : Nat)) ∈ argsTab := by
  intro k i e
  cases k <;> first | (cases e; decide +kernel) | cases e
theorem args_mis : ∀ k : Kd, k.argsAt = none → k.word ∈ (["eq", "less", "not", "and", "or", "some", "all", "guess"] : List Str) := by
  intro k e
  cases k <;> first | decide +kernel | cases e
theorem len_mem : ∀ (k : Kd), (k.word, V.int (k.many : Nat)) ∈ lenTab := by
  intro k
  cases k <;> decide +kernel
theorem kd_isJ : ∀ k : Kd, inV (.str k.word) [.str "and", .str "or"] = true → k = .con ∨ k = .dis := by
  intro k; cases k <;> decide +kernel
theorem kd_isJ' : ∀ k : Kd, inV (.str k.word) [.str "and", .str "or"] = false → k ≠ .con ∧ k ≠ .dis := by
  intro k; cases k <;> decide +kernel
theorem kd_isE : ∀ k : Kd, inV (.str k.word) [.str "eq", .str "less"] = true → k = .eq ∨ k = .less := by
  intro k; cases k <;> decide +kernel
theorem kd_isE' : ∀ k : Kd, inV (.str k.word) [.str "eq", .str "less"] = false → k ≠ .eq ∧ k ≠ .less := by
  intro k; cases k <;> decide +kernel
theorem isJ (h : Hd) (z : inV (.str h.word) [.str "and", .str "or"] = true) : h = .con ∨ h = .dis := by
  rcases kd_isJ _ z with e | e <;> cases h <;> first | exact Or.inl rfl | exact Or.inr rfl | cases e
theorem isJ' (h : Hd) (z : inV (.str h.word) [.str "and", .str "or"] = false) : h ≠ .con ∧ h ≠ .dis := by
  have := kd_isJ' _ z
  exact ⟨fun e => this.1 (by rw [e]; rfl), fun e => this.2 (by rw [e]; rfl)⟩
theorem isE (h : Hd) (z : inV (.str h.word) [.str "eq", .str "less"] = true) : ∃ x y, (h = .eq x y ∨ h = .less x y) := by
  rcases kd_isE _ z with e | e <;> cases h <;> first | exact ⟨_, _, Or.inl rfl⟩ | exact ⟨_, _, Or.inr rfl⟩ | cases e
theorem isE' (h : Hd) (z : inV (.str h.word) [.str "eq", .str "less"] = false) : ∀ x y, h ≠ .eq x y ∧ h ≠ .less x y := by
  have := kd_isE' _ z
  exact fun x y => ⟨fun e => this.1 (by rw [e]; rfl), fun e => this.2 (by rw [e]; rfl)⟩
section
variable {P : Program} {w : World} {K : PySem.W.Frag} {mg : Str → Option Value} {base : Heap}
theorem at0 {v : V} {xs : List V} : (v :: xs)[0]? = some v := rfl
theorem atS {v d : V} {xs : List V} {i : Nat} (h : xs[i]? = some d) : (v :: xs)[i + 1]? = some d := h
theorem sc_inner : FnScope ["formula"] ["formula"] (defScope (top 34)) := ⟨rfl, rfl, rfl, by decide +kernel, rfl, by decide +kernel, by decide +kernel⟩
theorem has_inner (D : Def K mg "inner" ["formula"] (top 34)) (T : Txt mg) (S : Shp K w mg) : Has P w K mg base 1 "inner" ["formula"] (spInner K) := D.has fun f fd F => by
  have c_BODY_AT := S.body.g
  obtain ⟨es, n, D_BODY_AT⟩ := S.body.d
  refine F.ok sc_inner (fun vs H Q E h => ?_) (fun cdv A outer s H vs Q E hr h => ?_)
  · obtain ⟨v, h, ds, rfl, _⟩ := h; rfl
  · obtain ⟨v, h, ds, rfl, dp, fit, q⟩ := h
    refine ⟨_, PSs.nox (pss_cons (ps_if (pt_cmpR op_in_seq (pe_ix ix_tup (pv 0) pe_int (fun _ _ => rfl)) (pe_tup (pa_cons pe_str (pa_cons pe_str pa_nil))) (by rfl)) (pss_one (ps_ret (pe_ix ix_tup (pv 0) pe_int (fun _ _ => rfl)))) pss_nil) (pss_cons (ps_if (pt_cmpR (op_in_kd D_BODY_AT) (pe_ix ix_tup (pv 0) pe_int (fun _ _ => rfl)) (pe_glob (v := .ref (He.ga K "BODY_AT")) (by rfl) c_BODY_AT rfl) (by rfl)) (pss_one (ps_ret (pe_tup (pa_cons (pe_ix ix_tup (pv 0) (pe_ix ix_kdict (pe_glob (v := .ref (He.ga K "BODY_AT")) (by rfl) c_BODY_AT rfl) (pe_ix ix_tup (pv 0) pe_int (fun _ _ => rfl)) (fun _ _ => rfl)) (fun _ _ => rfl)) pa_nil)))) pss_nil) (pss_one (ps_ret (pe_tup pa_nil))))), ?_⟩
    obtain ⟨a, xs, rfl, hT, hx⟩ := hd_inv dp
    refine ⟨_, rfl, a, _, _, _, rfl, rfl, hT, atI_nat (j := 0) rfl, (by show 2 ≤ sizeLine; decide), fun p np => ⟨p, _, rfl, .inr (SqT.of upd_same), rfl, rfl, _, rfl, ?_⟩⟩
    have sp : Same H (upd H p (.tup [.str "and", .str "or"])) := same_upd np
    have hT1 := Same.sqt sp hT
    have dp1 : DpAll K (upd H p (.tup [.str "and", .str "or"])) xs (h.rest ds) := DpAll.same sp hx
    by_cases j : inV (.str h.word) [.str "and", .str "or"] = true
    · refine cT j ?_
      have e : h.rest ds = [.tuple ds] := by rcases isJ h j with e | e <;> rw [e] <;> rfl
      rw [e] at dp1
      obtain ⟨v1, ws, rfl, h1, _⟩ := DpAll.cons_inv dp1
      exact ⟨_, rfl, a, _, _, _, rfl, rfl, hT1, atI_nat (j := 1) rfl, q _ _ sp h1⟩
    · have j' : inV (.str h.word) [.str "and", .str "or"] = false := by simpa using j
      refine cF j' ?_
      have nj := isJ' h j'
      refine ⟨_, rfl, a, _, _, _, rfl, rfl, hT1, atI_nat (j := 0) rfl, ?_⟩
      cases hb : h.kd.bodyAt with
      | some i =>
        have mem := body_mem _ _ hb
        obtain ⟨u, n1, ru⟩ := S.body.there _ _ mem
        refine ⟨_, _, rfl, rfl, n1, _, rfl, cT (k := (some u).isSome) rfl ?_⟩
        have one : ∃ d v2, ds = [d] ∧ (V.str h.word :: xs)[i]? = some v2 ∧ Dp K (upd H p (.tup [.str "and", .str "or"])) v2 d := by
          have l1 : ds.length = 1 := fit 1 (by cases h <;> first | cases hb; rfl | cases hb)
          obtain ⟨d, rfl⟩ := List.length_eq_one_iff.mp l1
          have g : (PyData.str h.word :: h.rest [d])[i]? = some d := by cases h <;> first | cases hb; rfl | cases hb
          obtain ⟨v2, g2, g3⟩ := DpAll.get (DpAll.cons (.str h.word) dp1) g
          exact ⟨d, v2, rfl, g2, g3⟩
        obtain ⟨d, v2, rfl, g2, g3⟩ := one
        refine ⟨_, rfl, _, rfl, a, _, _, _, rfl, rfl, hT1, atI_nat (j := 0) rfl, _, _, _, rfl, rfl, S.body.dct mem, a, _, _, _, rfl, rfl, hT1, atI_nat g2, (by show 1 ≤ sizeLine; decide), fun p2 np2 => ?_⟩
        exact q _ _ (sp.trans (same_upd np2)) (.tup (SqT.of upd_same) (.cons (Dp.same (same_upd np2) g3) .nil))
      | none =>
        have mem := body_mis _ hb
        refine ⟨_, _, rfl, rfl, S.bodyM _ mem, _, rfl, cF (k := (none : Option Value).isSome) rfl ?_⟩
        have e0 : ds = [] := by
          have l0 : ds.length = 0 := fit 0 (by cases h <;> first | rfl | exact absurd rfl nj.1 | exact absurd rfl nj.2 | cases hb)
          exact List.eq_nil_of_length_eq_zero l0
        subst e0
        refine ⟨(by show 0 ≤ sizeLine; decide), fun p2 np2 => ?_⟩
        exact q _ _ (sp.trans (same_upd np2)) (.tup (SqT.of upd_same) .nil)
theorem sc_own : FnScope ["formula"] ["formula"] (defScope (top 37)) := ⟨rfl, rfl, rfl, by decide +kernel, rfl, by decide +kernel, by decide +kernel⟩
theorem has_own (D : Def K mg "own" ["formula"] (top 37)) (T : Txt mg) (S : Shp K w mg) : Has P w K mg base 1 "own" ["formula"] (spOwn K) := D.has fun f fd F => by
  have c_OWN_AT := S.own.g
  obtain ⟨es, n, D_OWN_AT⟩ := S.own.d
  refine F.ok sc_own (fun vs H Q E h => ?_) (fun cdv A outer s H vs Q E hr h => ?_)
  · obtain ⟨v, h, ds, rfl, _⟩ := h; rfl
  · obtain ⟨v, h, ds, rfl, dp, fit, q⟩ := h
    refine ⟨_, PSs.nox (pss_cons (ps_if (pt_cmpR (op_in_kd D_OWN_AT) (pe_ix ix_tup (pv 0) pe_int (fun _ _ => rfl)) (pe_glob (v := .ref (He.ga K "OWN_AT")) (by rfl) c_OWN_AT rfl) (by rfl)) (pss_one (ps_ret (pe_ix ix_tup (pv 0) (pe_ix ix_kdict (pe_glob (v := .ref (He.ga K "OWN_AT")) (by rfl) c_OWN_AT rfl) (pe_ix ix_tup (pv 0) pe_int (fun _ _ => rfl)) (fun _ _ => rfl)) (fun _ _ => rfl)))) pss_nil) (pss_one (ps_ret (pe_tup pa_nil)))), ?_⟩
    obtain ⟨a, xs, rfl, hT, hx⟩ := hd_inv dp
    refine ⟨_, rfl, a, _, _, _, rfl, rfl, hT, atI_nat (j := 0) rfl, ?_⟩
    cases hb : h.kd.ownAt with
    | some i =>
      have mem := own_mem _ _ hb
      obtain ⟨u, n1, ru⟩ := S.own.there _ _ mem
      refine ⟨_, _, rfl, rfl, n1, _, rfl, cT (k := (some u).isSome) rfl ?_⟩
      have g : (PyData.str h.word :: h.rest ds)[i]? = some (tS h.own) := by cases h <;> first | cases hb; rfl | cases hb
      obtain ⟨v2, g2, g3⟩ := DpAll.get (DpAll.cons (.str h.word) hx) g
      refine ⟨_, rfl, _, rfl, a, _, _, _, rfl, rfl, hT, atI_nat (j := 0) rfl, _, _, _, rfl, rfl, S.own.dct mem, a, _, _, _, rfl, rfl, hT, atI_nat g2, ?_⟩
      exact q _ _ (.refl _) g3
    | none =>
      have mem := own_mis _ hb
      refine ⟨_, _, rfl, rfl, S.ownM _ mem, _, rfl, cF (k := (none : Option Value).isSome) rfl ?_⟩
      have e0 : h.own = [] := by cases h <;> first | rfl | cases hb
      refine ⟨(by show 0 ≤ sizeLine; decide), fun p2 np2 => ?_⟩
      exact q _ _ (same_upd np2) (by show Dp K _ _ (tS h.own); rw [e0]; exact .tup (SqT.of upd_same) .nil)
theorem sc_arguments : FnScope ["formula"] ["formula"] (defScope (top 39)) := ⟨rfl, rfl, rfl, by decide +kernel, rfl, by decide +kernel, by decide +kernel⟩
theorem has_arguments (D : Def K mg "arguments" ["formula"] (top 39)) (T : Txt mg) (S : Shp K w mg) : Has P w K mg base 1 "arguments" ["formula"] (spArgs K) := D.has fun f fd F => by
  have c_ARGUMENTS_AT := S.args.g
  obtain ⟨es, n, D_ARGUMENTS_AT⟩ := S.args.d
  refine F.ok sc_arguments (fun vs H Q E h => ?_) (fun cdv A outer s H vs Q E hr h => ?_)
  · obtain ⟨v, h, ds, rfl, _⟩ := h; rfl
  · obtain ⟨v, h, ds, rfl, dp, fit, q⟩ := h
    refine ⟨_, PSs.nox (pss_cons (ps_if (pt_cmpR op_in_seq (pe_ix ix_tup (pv 0) pe_int (fun _ _ => rfl)) (pe_tup (pa_cons pe_str (pa_cons pe_str pa_nil))) (by rfl)) (pss_one (ps_ret (pe_slice sl_tup (pv 0) (po_some pe_int) po_none))) pss_nil) (pss_cons (ps_if (pt_cmpR (op_in_kd D_ARGUMENTS_AT) (pe_ix ix_tup (pv 0) pe_int (fun _ _ => rfl)) (pe_glob (v := .ref (He.ga K "ARGUMENTS_AT")) (by rfl) c_ARGUMENTS_AT rfl) (by rfl)) (pss_one (ps_ret (pe_ix ix_tup (pv 0) (pe_ix ix_kdict (pe_glob (v := .ref (He.ga K "ARGUMENTS_AT")) (by rfl) c_ARGUMENTS_AT rfl) (pe_ix ix_tup (pv 0) pe_int (fun _ _ => rfl)) (fun _ _ => rfl)) (fun _ _ => rfl)))) pss_nil) (pss_one (ps_ret (pe_tup pa_nil))))), ?_⟩
    obtain ⟨a, xs, rfl, hT, hx⟩ := hd_inv dp
    refine ⟨_, rfl, a, _, _, _, rfl, rfl, hT, atI_nat (j := 0) rfl, (by show 2 ≤ sizeLine; decide), fun p np => ⟨p, _, rfl, .inr (SqT.of upd_same), rfl, rfl, _, rfl, ?_⟩⟩
    have sp : Same H (upd H p (.tup [.str "eq", .str "less"])) := same_upd np
    have hT1 := Same.sqt sp hT
    have dp1 : DpAll K (upd H p (.tup [.str "eq", .str "less"])) xs (h.rest ds) := DpAll.same sp hx
    by_cases j : inV (.str h.word) [.str "eq", .str "less"] = true
    · refine cT j ?_
      obtain ⟨x, y, e⟩ := isE h j
      have e2 : xs = [.str x, .str y] := by
        rcases e with e | e <;> subst e <;> exact DpAll.strs (as := [x, y]) dp1
      have e3 : h.args = [x, y] := by rcases e with e | e <;> rw [e] <;> rfl
      subst e2
      refine ⟨_, rfl, 1, rfl, a, _, rfl, hT1, fun z => absurd z.1 (by show ¬ (HT.sIx 3 0 (some 1) = 0); decide), fun p2 np2 => ?_⟩
      refine q _ _ (sp.trans (same_upd np2)) ?_
      show Dp K _ _ (tS h.args)
      rw [e3]
      exact tS_of (SqT.of upd_same)
    · have j' : inV (.str h.word) [.str "eq", .str "less"] = false := by simpa using j
      refine cF j' ?_
      have nj := isE' h j'
      refine ⟨_, rfl, a, _, _, _, rfl, rfl, hT1, atI_nat (j := 0) rfl, ?_⟩
      cases hb : h.kd.argsAt with
      | some i =>
        have mem := args_mem _ _ hb
        obtain ⟨u, n1, ru⟩ := S.args.there _ _ mem
        refine ⟨_, _, rfl, rfl, n1, _, rfl, cT (k := (some u).isSome) rfl ?_⟩
        have g : (PyData.str h.word :: h.rest ds)[i]? = some (tS h.args) := by
          cases h with
          | lfp m us bs => cases hb; obtain ⟨d, rfl⟩ := List.length_eq_one_iff.mp (fit 1 rfl); rfl
          | pfp m us bs => cases hb; obtain ⟨d, rfl⟩ := List.length_eq_one_iff.mp (fit 1 rfl); rfl
          | tc us bs => cases hb; obtain ⟨d, rfl⟩ := List.length_eq_one_iff.mp (fit 1 rfl); rfl
          | rel m bs => cases hb; rfl
          | _ => cases hb
        obtain ⟨v2, g2, g3⟩ := DpAll.get (DpAll.cons (.str h.word) dp1) g
        refine ⟨_, rfl, _, rfl, a, _, _, _, rfl, rfl, hT1, atI_nat (j := 0) rfl, _, _, _, rfl, rfl, S.args.dct mem, a, _, _, _, rfl, rfl, hT1, atI_nat g2, ?_⟩
        exact q _ _ sp g3
      | none =>
        have mem := args_mis _ hb
        refine ⟨_, _, rfl, rfl, S.argsM _ mem, _, rfl, cF (k := (none : Option Value).isSome) rfl ?_⟩
        have e0 : h.args = [] := by cases h <;> first | rfl | exact absurd rfl (nj _ _).1 | exact absurd rfl (nj _ _).2 | cases hb
        refine ⟨(by show 0 ≤ sizeLine; decide), fun p2 np2 => ?_⟩
        exact q _ _ (sp.trans (same_upd np2)) (by show Dp K _ _ (tS h.args); rw [e0]; exact .tup (SqT.of upd_same) .nil)
end
section
variable {P : Program} {w : World} {K : PySem.W.Frag} {mg : Str → Option Value} {base : Heap}
theorem kd_isB : ∀ k : Kd, inV (.str k.word) [.str "lfp", .str "pfp", .str "guess"] = true → k = .lfp ∨ k = .pfp ∨ k = .gs := by
  intro k; cases k <;> decide +kernel
theorem kd_isB' : ∀ k : Kd, inV (.str k.word) [.str "lfp", .str "pfp", .str "guess"] = false → k ≠ .lfp ∧ k ≠ .pfp ∧ k ≠ .gs := by
  intro k; cases k <;> decide +kernel
theorem rest_bound {h : Hd} {ds : List PyData} {n : Str} {k : Nat} (b : h.bound = some (n, k)) : (h.rest ds)[0]? = some (.str n) := by
  cases h <;> first | (cases b; rfl) | cases b
theorem bound_kd {h : Hd} (z : h.kd = .lfp ∨ h.kd = .pfp ∨ h.kd = .gs) : ∃ n k, h.bound = some (n, k) := by
  rcases z with e | e | e <;> cases h <;> first | exact ⟨_, _, rfl⟩ | cases e
theorem bound_kd' {h : Hd} (z : h.kd ≠ .lfp ∧ h.kd ≠ .pfp ∧ h.kd ≠ .gs) : h.bound = none := by
  cases h <;> first | rfl | exact absurd rfl z.1 | exact absurd rfl z.2.1 | exact absurd rfl z.2.2
theorem sc_bound_name : FnScope ["formula"] ["formula"] (defScope (top 41)) := ⟨rfl, rfl, rfl, by decide +kernel, rfl, by decide +kernel, by decide +kernel⟩
theorem has_bound_name (D : Def K mg "bound_name" ["formula"] (top 41)) : Has P w K mg base 1 "bound_name" ["formula"] (spBName K) := D.has fun f fd F => by
  refine F.ok sc_bound_name (fun vs H Q E h => ?_) (fun cdv A outer s H vs Q E hr h => ?_)
  · obtain ⟨v, h, ds, rfl, _⟩ := h; rfl
  · obtain ⟨v, h, ds, rfl, dp, fit, q⟩ := h
    refine ⟨_, PSs.nox (pss_cons (ps_if (pt_cmpR op_in_seq (pe_ix ix_tup (pv 0) pe_int (fun _ _ => rfl)) (pe_tup (pa_cons pe_str (pa_cons pe_str (pa_cons pe_str pa_nil)))) (by rfl)) (pss_one (ps_ret (pe_ix ix_tup (pv 0) pe_int (fun _ _ => rfl)))) pss_nil) (pss_one (ps_ret pe_non))), ?_⟩
    obtain ⟨a, xs, rfl, hT, hx⟩ := hd_inv dp
    refine ⟨_, rfl, a, _, _, _, rfl, rfl, hT, atI_nat (j := 0) rfl, (by show 3 ≤ sizeLine; decide), fun p np => ⟨p, _, rfl, .inr (SqT.of upd_same), rfl, rfl, _, rfl, ?_⟩⟩
    have sp : Same H (upd H p (.tup [.str "lfp", .str "pfp", .str "guess"])) := same_upd np
    by_cases j : inV (.str h.word) [.str "lfp", .str "pfp", .str "guess"] = true
    · refine cT j ?_
      obtain ⟨n, k, b⟩ := bound_kd (kd_isB _ j)
      obtain ⟨v2, g2, g3⟩ := DpAll.get hx (rest_bound b)
      refine ⟨_, rfl, a, _, _, _, rfl, rfl, Same.sqt sp hT, atI_nat (j := 1) (atS g2), ?_⟩
      refine q _ _ sp ?_
      show v2 = match h.bound with | some (n, _) => V.str n | none => .non
      rw [b]
      exact Dp.str_inv g3
    · have j' : inV (.str h.word) [.str "lfp", .str "pfp", .str "guess"] = false := by simpa using j
      refine cF j' ?_
      refine q _ _ sp ?_
      show V.non = match h.bound with | some (n, _) => V.str n | none => .non
      rw [bound_kd' (kd_isB' _ j')]
theorem kd_gs : ∀ k : Kd, decide (V.str k.word = V.str "guess") = true → k = .gs := by
  intro k; cases k <;> decide +kernel
theorem sc_bound_arity : FnScope ["formula"] ["formula"] (defScope (top 42)) := ⟨rfl, rfl, rfl, by decide +kernel, rfl, by decide +kernel, by decide +kernel⟩
theorem has_bound_arity (D : Def K mg "bound_arity" ["formula"] (top 42)) (T : Txt mg) : Has P w K mg base 1 "bound_arity" ["formula"] (spBArity K) := D.has fun f fd F => by
  refine F.ok sc_bound_arity (fun vs H Q E h => ?_) (fun cdv A outer s H vs Q E hr h => ?_)
  · obtain ⟨v, h, ds, n, k, rfl, _⟩ := h; rfl
  · obtain ⟨v, h, ds, n, k, rfl, dp, b, q⟩ := h
    refine ⟨_, PSs.nox (pss_cons (ps_if (pt_cmpR op_eq (pe_ix ix_tup (pv 0) pe_int (fun _ _ => rfl)) pe_str (nomark _)) (pss_one (ps_ret (pe_ix ix_tup (pv 0) pe_int (fun _ _ => rfl)))) pss_nil) (pss_one (ps_ret (pe_callB call_len_seq (by rfl) T.n_len PySem.boot_len (pa_cons (pe_ix ix_tup (pv 0) pe_int (fun _ _ => rfl)) pa_nil))))), ?_⟩
    obtain ⟨a, xs, rfl, hT, hx⟩ := hd_inv dp
    refine ⟨_, rfl, a, _, _, _, rfl, rfl, hT, atI_nat (j := 0) rfl, rfl, _, rfl, ite2 (fun e => ?_) (fun e => ?_)⟩
    · have ek := kd_gs _ e
      have g : (h.rest ds)[1]? = some (.int k) := by cases h <;> first | (cases b; rfl) | cases ek
      obtain ⟨v2, g2, g3⟩ := DpAll.get hx g
      rw [Dp.int_inv g3] at g2
      exact ⟨_, rfl, a, _, _, _, rfl, rfl, hT, atI_nat (j := 2) (atS g2), q _ (.refl _)⟩
    · have g : ∃ us : List Str, (h.rest ds)[1]? = some (tS us) ∧ us.length = k := by
        cases h <;> first | (cases b; exact ⟨_, rfl, rfl⟩) | (cases b; exact absurd rfl e) | cases b
      obtain ⟨us, g, rfl⟩ := g
      obtain ⟨v2, g2, g3⟩ := DpAll.get hx g
      obtain ⟨t, rfl, ht⟩ := tS_inv g3
      refine ⟨_, rfl, a, _, _, _, rfl, rfl, hT, atI_nat (j := 2) (atS g2), t, _, rfl, .inr ht, ?_⟩
      have := q _ (.refl H)
      rw [List.length_map]
      exact this
/-- are these variables, as many as one of the counts -/
noncomputable def allNm (as : List Str) : Bool := as.all isNm
def spAreVars (K : PySem.W.Frag) : Sp := fun vs H Q _ => ∃ (v : V) (as : List Str) (c : Addr) (ns : List Int), vs = [v, .ref c] ∧ Dp K H v (tS as) ∧ SqT K H c (ns.map V.int) ∧ (∀ z, z ∈ as → z.length ≤ sizeLine) ∧ as.length ≤ 1000 ∧
  ∀ (H' : Hp), Same H H' → Q (.bl (decide ((as.length : Int) ∈ ns) && allNm as)) H'
theorem inV_int {i : Int} : ∀ {ns : List Int}, inV (.int i) (ns.map V.int) = decide (i ∈ ns)
  | [] => by simp [inV]
  | n :: ns => by
    have ih := inV_int (i := i) (ns := ns)
    unfold inV at ih ⊢
    rw [List.map_cons, List.any_cons, ih]
    show ((n == i) || _) = _
    by_cases e : n = i
    · subst e; simp
    · have e2 : i ≠ n := fun z => e z.symm
      simp [e, e2]
theorem flat_ints : ∀ (ns : List Int), (ns.map V.int).all flatV = true
  | [] => rfl
  | n :: ns => by rw [List.map_cons, List.all_cons, flat_ints ns]; rfl
theorem flat_strs : ∀ (ns : List Str), (ns.map V.str).all flatV = true
  | [] => rfl
  | n :: ns => by rw [List.map_cons, List.all_cons, flat_strs ns]; rfl
theorem ty_tup {H : Hp} {a : Addr} {xs : List V} (h : SqT K H a xs) : TyX K H (.ref a) (.type "tuple") := by
  rcases h with (h | ⟨o, h⟩) | ⟨o, its, n, h, c, _⟩
  · exact .base (.tup h)
  · exact .fTuple h
  · exact .kTuple h c
theorem get_str {ns : List Str} {i : Nat} {y : V} (h : (ns.map V.str)[i]? = some y) : ∃ z, ns[i]? = some z ∧ y = .str z := by
  rw [List.getElem?_map] at h
  cases e : ns[i]? with
  | none => rw [e] at h; cases h
  | some z => rw [e] at h; exact ⟨z, rfl, (Option.some.inj h).symm⟩
theorem sc_are_variables : FnScope ["value", "counts", "variable"] ["value", "counts"] (defScope (top 22)) := ⟨rfl, rfl, rfl, by decide +kernel, rfl, by decide +kernel, by decide +kernel⟩
theorem has_are_variables (D : Def K mg "_are_variables" ["value", "counts"] (top 22)) (T : Txt mg) (C1 : Has P w K mg base 1 "is_name" ["text"] (spIsName K)) : Has P w K mg base 2 "_are_variables" ["value", "counts"] (spAreVars K) := D.has fun f fd F => by
  obtain ⟨f1, fd1, G_is_name, g_is_name, k_is_name, b_is_name⟩ := C1
  refine F.ok sc_are_variables (fun vs H Q E h => ?_) (fun cdv A outer s H vs Q E hr h => ?_)
  · obtain ⟨v, as, c, ns, rfl, _⟩ := h; rfl
  · obtain ⟨v, as, c, ns, rfl, dp, hc, lz, few, q⟩ := h
    have R_is_name : Room 1 _ := hr.mono (by decide)
    refine ⟨_, PSs.nox (pss_cons (ps_if (PW.pt (pw_or (pt_not (pt_val (pe_callB call_isi (by rfl) T.n_isinstance (by decide +kernel) (pa_cons (pv 0) (pa_cons (pe_bltn (v := .ty "tuple") (by rfl) T.n_tuple (by decide +kernel) rfl) pa_nil))))) (pw_or1 (pt_cmpR op_notIn_seq (pe_callB call_len_seq (by rfl) T.n_len PySem.boot_len (pa_cons (pv 0) pa_nil)) (pv 1) (by rfl))))) (pss_one (ps_ret pe_bl)) pss_nil) (pss_one (ps_ret (pe_callB (cr_all rfl) (by rfl) T.n_all (by decide +kernel) (pa_cons (pe_lc (own := [("variable", 2)]) rfl sc_are_variables.nd (pi_tup (pv 0)) (blkOk_by (N := ["value", "counts", "variable"]) (sc := defScope (top 22)) (by decide +kernel)) (fun _ _ _ _ _ => (pg_name (i := 2) sc_are_variables.nd rfl (Or.inl rfl))) (fun _ _ _ _ _ => pts_nil) (fun _ _ _ _ _ => (pe_call G_is_name R_is_name (by rfl) g_is_name k_is_name b_is_name .nil pass0 (pa_cons (pv 2) pa_nil)))) pa_nil))))), ?_⟩
    obtain ⟨t, rfl, ht⟩ := tS_inv dp
    refine ⟨_, rfl, _, _, _, _, _, rfl, .ty _, ty_tup ht, kit_ty (b := "tuple") (r := true) (by decide +kernel), _, rfl, iteF ?_⟩
    refine ⟨_, rfl, t, _, rfl, .inr ht, _, rfl, c, _, rfl, .inr hc, rfl, flat_ints ns, _, rfl, ?_⟩
    have el : inV (.int ((as.map V.str).length : Nat)) (ns.map V.int) = decide ((as.length : Int) ∈ ns) := by rw [List.length_map]; exact inV_int
    cases hin : decide ((as.length : Int) ∈ ns) with
    | false =>
      rw [hin] at el
      refine cT (k := !inV (.int ((as.map V.str).length : Nat)) (ns.map V.int)) (by rw [el]; rfl) ?_
      have := q H (.refl H)
      rw [hin] at this
      exact this
    | true =>
      rw [hin] at el
      refine cF (k := !inV (.int ((as.map V.str).length : Nat)) (ns.map V.int)) (by rw [el]; rfl) ?_
      refine ⟨_, rfl, t, rfl, ⟨_, ht⟩, fun L nL => ?_⟩
      refine lc_it (walk_tup (K := K) (a := t) (xs := as.map V.str)) (fun i H2 => H2 L = some (.lst (((as.take i).map isNm).map V.bl)) ∧ Same H H2) ⟨upd_same, same_upd nL⟩ (fun i H2 _ ⟨_, s2⟩ => Same.sqt s2 ht) ?_ ?_
      · rintro i y H2 H3 hi ⟨hL, s2⟩ ⟨rfl, hy⟩
        obtain ⟨z, hz, rfl⟩ := get_str hy
        refine ⟨rfl, _, rfl, .inl ⟨z, rfl, lz z (List.mem_of_getElem? hz), _, hL, ?_, ?_, fun b o eb => ?_⟩⟩
        · rw [List.length_map, List.length_map]
          exact Nat.lt_of_le_of_lt (List.length_take_le' _ _) (small1000 few)
        · rw [upd_same, List.take_add_one, hz, List.map_append, List.map_append]
          rfl
        · rw [upd_ne (ne_of_none eb nL)]
          exact s2 _ _ eb
      · rintro H2 ⟨hL, s2⟩
        have et : as.take (as.map V.str).length = as := by rw [List.length_map]; exact List.take_length
        rw [et] at hL
        refine ⟨L, as.map isNm, rfl, SqL.of hL, ?_⟩
        have e2 : (as.map isNm).all id = allNm as := by rw [List.all_map]; rfl
        have := q H2 s2
        rw [hin] at this
        show Q (.bl ((as.map isNm).all id)) H2
        rw [e2]
        exact this
end
section
variable {P : Program} {w : World} {K : PySem.W.Frag} {mg : Str → Option Value} {base : Heap}
def spAreDiff (K : PySem.W.Frag) : Sp := fun vs H Q _ => ∃ (v : V) (as : List Str) (c : Addr) (ns : List Int), vs = [v, .ref c] ∧ Dp K H v (tS as) ∧ SqT K H c (ns.map V.int) ∧ (∀ z, z ∈ as → z.length ≤ sizeLine) ∧ as.length ≤ 1000 ∧
  ∀ (H' : Hp), Same H H' → Q (.bl ((decide ((as.length : Int) ∈ ns) && allNm as) && decide as.Nodup)) H'
theorem strs_kV (as : List Str) : (as.map (Sum.inr : Str → Key)).map kV = as.map V.str := by
  rw [List.map_map]; rfl
theorem nodup_inr {as : List Str} : (as.map (Sum.inr : Str → Key)).Nodup ↔ as.Nodup := by
  constructor
  · intro h
    exact List.Pairwise.of_map _ (fun a b hne e => hne (congrArg _ e)) h
  · intro h
    exact List.Pairwise.map _ (fun a b hne e => hne (Sum.inr.inj e)) h
theorem sc_are_different : FnScope ["value", "counts"] ["value", "counts"] (defScope (top 23)) := ⟨rfl, rfl, rfl, by decide +kernel, rfl, by decide +kernel, by decide +kernel⟩
theorem has_are_different (D : Def K mg "are_different" ["value", "counts"] (top 23)) (T : Txt mg) (C1 : Has P w K mg base 2 "_are_variables" ["value", "counts"] (spAreVars K)) : Has P w K mg base 3 "are_different" ["value", "counts"] (spAreDiff K) := D.has fun f fd F => by
  obtain ⟨f1, fd1, G_are_variables, g_are_variables, k_are_variables, b_are_variables⟩ := C1
  refine F.ok sc_are_different (fun vs H Q E h => ?_) (fun cdv A outer s H vs Q E hr h => ?_)
  · obtain ⟨v, as, c, ns, rfl, _⟩ := h; rfl
  · obtain ⟨v, as, c, ns, rfl, dp, hc, lz, few, q⟩ := h
    have R_are_variables : Room 2 _ := hr.mono (by decide)
    refine ⟨_, PSs.nox (pss_one (ps_ret (pe_and (pe_call G_are_variables R_are_variables (by rfl) g_are_variables k_are_variables b_are_variables .nil pass0 (pa_cons (pv 0) (pa_cons (pv 1) pa_nil))) (pe_one (pe_cmpR op_eq (pe_callB call_lenSK (by rfl) T.n_len PySem.boot_len (pa_cons (pe_callTy (cr_setK rfl) (by rfl) T.n_set (by decide +kernel) (pa_cons (pv 0) pa_nil)) pa_nil)) (pe_callB call_len_seq (by rfl) T.n_len PySem.boot_len (pa_cons (pv 0) pa_nil)) (nomark _)))))), ?_⟩
    refine ⟨_, rfl, _, rfl, v, as, c, ns, rfl, dp, hc, lz, few, fun H1 s1 => ⟨_, rfl, ?_⟩⟩
    cases hb : (decide ((as.length : Int) ∈ ns) && allNm as) with
    | false =>
      refine iteF ?_
      have := q H1 s1
      rw [hb] at this
      exact this
    | true =>
      refine iteT ?_
      obtain ⟨t, rfl, ht⟩ := tS_inv (Dp.same s1 dp)
      refine ⟨_, rfl, t, as.map Sum.inr, rfl, .inr (by rw [strs_kV]; exact ht), (by rw [List.length_map]; omega), fun p c2 np hc2 => ?_⟩
      have s2 := s1.trans (same_upd (o := SetK P w p (memK (as.map Sum.inr)) c2) np)
      refine ⟨p, _, _, rfl, upd_same, _, rfl, t, _, rfl, .inr (Same.sqt (same_upd np) ht), rfl, ?_⟩
      have := q _ s2
      rw [hb] at this
      have e : decide (V.int (c2 : Nat) = V.int ((as.map V.str).length : Nat)) = (true && decide as.Nodup) := by
        have z := hc2.all
        rw [nodup_inr, List.length_map] at z
        rw [List.length_map]
        by_cases hn : as.Nodup
        · rw [z.mpr hn, decide_eq_true hn]
          exact decide_eq_true rfl
        · rw [decide_eq_false hn]
          refine decide_eq_false fun h => hn (z.mp ?_)
          have h2 : (c2 : Int) = (as.length : Nat) := V.int.inj h
          omega
      show Q (.bl (decide (V.int (c2 : Nat) = V.int ((as.map V.str).length : Nat)))) _
      rw [e]
      exact this
/-- the promise of a test of heads -/
def spTest (K : PySem.W.Frag) (x : Str) : Sp := fun vs H Q _ => ∃ (v : V) (h : Hd) (ds : List PyData), vs = [v] ∧ Dp K H v (h.data ds) ∧ h.Ok ds.length ∧ h.kd.test = x ∧ ∀ (H' : Hp), Same H H' → Q (.bl true) H'
theorem Nm.short {z : Str} (n : Nm z) : z.length ≤ sizeLine := Nat.le_trans n.hi (by decide)
theorem names_all {as : List Str} (h : Names as) : allNm as = true := List.all_eq_true.mpr fun z hz => isNm_t (h z hz)
theorem names_short {as : List Str} (h : Names as) : ∀ z, z ∈ as → z.length ≤ sizeLine := fun z hz => (h z hz).short
theorem vars_t {as : List Str} {ns : List Int} (h : Names as) (m : (as.length : Int) ∈ ns) : (decide ((as.length : Int) ∈ ns) && allNm as) = true := by
  rw [decide_eq_true m, names_all h]; rfl
theorem diff_t {as : List Str} {ns : List Int} (h : Names as) (m : (as.length : Int) ∈ ns) (d : as.Nodup) : ((decide ((as.length : Int) ∈ ns) && allNm as) && decide as.Nodup) = true := by
  rw [vars_t h m, decide_eq_true d]; rfl
theorem kd_tn : ∀ (k : Kd), (k.test = "_is_rel" → k = .rel) ∧ (k.test = "_is_comparison" → k = .eq ∨ k = .less) ∧ (k.test = "_is_joined" → k = .con ∨ k = .dis) ∧ (k.test = "_is_quantified" → k = .ex ∨ k = .al) ∧
    (k.test = "_is_fixed_point" → k = .lfp ∨ k = .pfp) ∧ (k.test = "_is_closure" → k = .tc) ∧ (k.test = "_is_guess" → k = .gs) := by
  intro k; cases k <;> decide +kernel
theorem sc_is_rel : FnScope ["value"] ["value"] (defScope (top 24)) := ⟨rfl, rfl, rfl, by decide +kernel, rfl, by decide +kernel, by decide +kernel⟩
theorem has_is_rel (D : Def K mg "_is_rel" ["value"] (top 24)) (S : Shp K w mg) (C1 : Has P w K mg base 1 "is_name" ["text"] (spIsName K)) (C2 : Has P w K mg base 2 "_are_variables" ["value", "counts"] (spAreVars K)) : Has P w K mg base 4 "_is_rel" ["value"] (spTest K "_is_rel") := D.has fun f fd F => by
  obtain ⟨f1, fd1, G_is_name, g_is_name, k_is_name, b_is_name⟩ := C1
  obtain ⟨f2, fd2, G_are_variables, g_are_variables, k_are_variables, b_are_variables⟩ := C2
  have c_REL_COUNTS := S.relG
  refine F.ok sc_is_rel (fun vs H Q E h => ?_) (fun cdv A outer s H vs Q E hr h => ?_)
  · obtain ⟨v, h, ds, rfl, _⟩ := h; rfl
  · obtain ⟨v, h, ds, rfl, dp, ok, tn, q⟩ := h
    have R_is_name : Room 1 _ := hr.mono (by decide)
    have R_are_variables : Room 2 _ := hr.mono (by decide)
    refine ⟨_, PSs.nox (pss_one (ps_ret (pe_and (pe_call G_is_name R_is_name (by rfl) g_is_name k_is_name b_is_name .nil pass0 (pa_cons (pe_ix ix_tup (pv 0) pe_int (fun _ _ => rfl)) pa_nil)) (pe_one (pe_call G_are_variables R_are_variables (by rfl) g_are_variables k_are_variables b_are_variables .nil pass0 (pa_cons (pe_ix ix_tup (pv 0) pe_int (fun _ _ => rfl)) (pa_cons (pe_glob (v := .ref (He.ga K "REL_COUNTS")) (by rfl) c_REL_COUNTS rfl) pa_nil))))))), ?_⟩
    have ek := (kd_tn _).1 tn
    cases h with
    | rel n as =>
      obtain ⟨hn, hl, hs, _⟩ := ok
      obtain ⟨a, xs, rfl, hT, hx⟩ := hd_inv dp
      obtain ⟨v1, ws, rfl, h1, h2⟩ := DpAll.cons_inv hx
      obtain ⟨v2, ws2, rfl, h3, h4⟩ := DpAll.cons_inv h2
      rw [Dp.str_inv h1] at hT
      refine ⟨_, rfl, a, _, _, _, rfl, rfl, hT, atI_nat (j := 1) rfl, .inl ⟨n, rfl, hn.short, _, rfl, ?_⟩⟩
      refine cT (isNm_t hn) ⟨_, rfl, a, _, _, _, rfl, rfl, hT, atI_nat (j := 2) rfl, v2, as, _, [0, 1, 2, 3, 4, 5, 6], rfl, h3, S.relC _, names_short hs, by omega, fun H1 s1 => ?_⟩
      have m : (as.length : Int) ∈ ([0, 1, 2, 3, 4, 5, 6] : List Int) := by simp only [List.mem_cons, List.not_mem_nil, or_false]; omega
      rw [vars_t hs m]
      exact q H1 s1
    | _ => cases ek
theorem sc_is_comparison : FnScope ["value"] ["value"] (defScope (top 25)) := ⟨rfl, rfl, rfl, by decide +kernel, rfl, by decide +kernel, by decide +kernel⟩
theorem has_is_comparison (D : Def K mg "_is_comparison" ["value"] (top 25)) (C1 : Has P w K mg base 1 "is_name" ["text"] (spIsName K)) : Has P w K mg base 4 "_is_comparison" ["value"] (spTest K "_is_comparison") := D.has fun f fd F => by
  obtain ⟨f1, fd1, G_is_name, g_is_name, k_is_name, b_is_name⟩ := C1
  refine F.ok sc_is_comparison (fun vs H Q E h => ?_) (fun cdv A outer s H vs Q E hr h => ?_)
  · obtain ⟨v, h, ds, rfl, _⟩ := h; rfl
  · obtain ⟨v, h, ds, rfl, dp, ok, tn, q⟩ := h
    have R_is_name : Room 1 _ := hr.mono (by decide)
    refine ⟨_, PSs.nox (pss_one (ps_ret (pe_and (pe_call G_is_name R_is_name (by rfl) g_is_name k_is_name b_is_name .nil pass0 (pa_cons (pe_ix ix_tup (pv 0) pe_int (fun _ _ => rfl)) pa_nil)) (pe_one (pe_call G_is_name R_is_name (by rfl) g_is_name k_is_name b_is_name .nil pass0 (pa_cons (pe_ix ix_tup (pv 0) pe_int (fun _ _ => rfl)) pa_nil)))))), ?_⟩
    have two : ∃ x y, Nm x ∧ Nm y ∧ h.rest ds = [.str x, .str y] := by
      rcases (kd_tn _).2.1 tn with e | e <;> cases h <;> first | exact ⟨_, _, ok.1, ok.2.1, rfl⟩ | cases e
    obtain ⟨x, y, nx, ny, e⟩ := two
    obtain ⟨a, xs, rfl, hT, hx⟩ := hd_inv dp
    rw [e] at hx
    rw [DpAll.strs (as := [x, y]) hx] at hT
    refine ⟨_, rfl, a, _, _, _, rfl, rfl, hT, atI_nat (j := 1) rfl, .inl ⟨x, rfl, nx.short, _, rfl, ?_⟩⟩
    refine cT (isNm_t nx) ⟨_, rfl, a, _, _, _, rfl, rfl, hT, atI_nat (j := 2) rfl, .inl ⟨y, rfl, ny.short, ?_⟩⟩
    rw [isNm_t ny]
    exact q H (.refl H)
theorem sc_is_negation : FnScope ["_value"] ["_value"] (defScope (top 26)) := ⟨rfl, rfl, rfl, by decide +kernel, rfl, by decide +kernel, by decide +kernel⟩
theorem has_is_negation (D : Def K mg "_is_negation" ["_value"] (top 26)) : Has P w K mg base 4 "_is_negation" ["_value"] (spTest K "_is_negation") := D.has fun f fd F => by
  refine F.ok sc_is_negation (fun vs H Q E h => ?_) (fun cdv A outer s H vs Q E hr h => ?_)
  · obtain ⟨v, h, ds, rfl, _⟩ := h; rfl
  · obtain ⟨v, h, ds, rfl, dp, ok, tn, q⟩ := h
    exact ⟨_, PSs.nox (pss_one (ps_ret pe_bl)), q H (.refl H)⟩
theorem sc_is_joined : FnScope ["value"] ["value"] (defScope (top 27)) := ⟨rfl, rfl, rfl, by decide +kernel, rfl, by decide +kernel, by decide +kernel⟩
theorem has_is_joined (D : Def K mg "_is_joined" ["value"] (top 27)) (T : Txt mg) (S : Shp K w mg) : Has P w K mg base 4 "_is_joined" ["value"] (spTest K "_is_joined") := D.has fun f fd F => by
  obtain ⟨t1, c_MOST_JOINED⟩ := S.joined
  refine F.ok sc_is_joined (fun vs H Q E h => ?_) (fun cdv A outer s H vs Q E hr h => ?_)
  · obtain ⟨v, h, ds, rfl, _⟩ := h; rfl
  · obtain ⟨v, h, ds, rfl, dp, ok, tn, q⟩ := h
    refine ⟨_, PSs.nox (pss_one (ps_ret (pe_and (pe_callB call_isi (by rfl) T.n_isinstance (by decide +kernel) (pa_cons (pe_ix ix_tup (pv 0) pe_int (fun _ _ => rfl)) (pa_cons (pe_bltn (v := .ty "tuple") (by rfl) T.n_tuple (by decide +kernel) rfl) pa_nil))) (pe_one (pe_cmpR op_le (pe_callB call_len_seq (by rfl) T.n_len PySem.boot_len (pa_cons (pe_ix ix_tup (pv 0) pe_int (fun _ _ => rfl)) pa_nil)) (pe_glob (v := .int 40) (by rfl) c_MOST_JOINED ⟨_, rfl⟩) (nomark _)))))), ?_⟩
    have two : ds.length ≤ 40 ∧ h.rest ds = [.tuple ds] := by
      rcases (kd_tn _).2.2.1 tn with e | e <;> cases h <;> first | exact ⟨ok, rfl⟩ | cases e
    obtain ⟨l40, e⟩ := two
    obtain ⟨a, xs, rfl, hT, hx⟩ := hd_inv dp
    rw [e] at hx
    obtain ⟨v1, ws, rfl, h1, h2⟩ := DpAll.cons_inv hx
    obtain ⟨b, ys, rfl, hb, hy⟩ := Dp.tup_inv h1
    refine ⟨_, rfl, a, _, _, _, rfl, rfl, hT, atI_nat (j := 1) rfl, _, _, _, _, _, rfl, .ty _, ty_tup hb, kit_ty (b := "tuple") (r := true) (by decide +kernel), _, rfl, iteT ?_⟩
    refine ⟨_, rfl, a, _, _, _, rfl, rfl, hT, atI_nat (j := 1) rfl, b, _, rfl, .inr hb, _, _, rfl, rfl, ?_⟩
    show Q (.bl (decide (((ys.length : Nat) : Int) ≤ 40))) H
    rw [decide_eq_true (show ((ys.length : Nat) : Int) ≤ 40 by rw [DpAll.length hy]; omega)]
    exact q H (.refl H)
theorem sc_is_quantified : FnScope ["value"] ["value"] (defScope (top 28)) := ⟨rfl, rfl, rfl, by decide +kernel, rfl, by decide +kernel, by decide +kernel⟩
theorem has_is_quantified (D : Def K mg "_is_quantified" ["value"] (top 28)) (S : Shp K w mg) (C2 : Has P w K mg base 3 "are_different" ["value", "counts"] (spAreDiff K)) : Has P w K mg base 4 "_is_quantified" ["value"] (spTest K "_is_quantified") := D.has fun f fd F => by
  obtain ⟨f2, fd2, G_are_different, g_are_different, k_are_different, b_are_different⟩ := C2
  have c_OWN_COUNTS := S.ownG
  refine F.ok sc_is_quantified (fun vs H Q E h => ?_) (fun cdv A outer s H vs Q E hr h => ?_)
  · obtain ⟨v, h, ds, rfl, _⟩ := h; rfl
  · obtain ⟨v, h, ds, rfl, dp, ok, tn, q⟩ := h
    have R_are_different : Room 3 _ := hr.mono (by decide)
    refine ⟨_, PSs.nox (pss_one (ps_ret (pe_call G_are_different R_are_different (by rfl) g_are_different k_are_different b_are_different .nil pass0 (pa_cons (pe_ix ix_tup (pv 0) pe_int (fun _ _ => rfl)) (pa_cons (pe_glob (v := .ref (He.ga K "OWN_COUNTS")) (by rfl) c_OWN_COUNTS rfl) pa_nil))))), ?_⟩
    have two : ∃ us, OwnOk us ∧ h.rest ds = tS us :: ds := by
      rcases (kd_tn _).2.2.2.1 tn with e | e <;> cases h <;> first | exact ⟨_, ok.1, rfl⟩ | cases e
    obtain ⟨us, ⟨o1, o6, on, od⟩, e⟩ := two
    obtain ⟨a, xs, rfl, hT, hx⟩ := hd_inv dp
    rw [e] at hx
    obtain ⟨v1, ws, rfl, h1, h2⟩ := DpAll.cons_inv hx
    refine ⟨_, rfl, a, _, _, _, rfl, rfl, hT, atI_nat (j := 1) rfl, v1, us, _, [1, 2, 3, 4, 5, 6], rfl, h1, S.ownC _, names_short on, by omega, fun H1 s1 => ?_⟩
    have m : (us.length : Int) ∈ ([1, 2, 3, 4, 5, 6] : List Int) := by simp only [List.mem_cons, List.not_mem_nil, or_false]; omega
    rw [diff_t on m od]
    exact q H1 s1
theorem sc_is_fixed_point : FnScope ["value"] ["value"] (defScope (top 29)) := ⟨rfl, rfl, rfl, by decide +kernel, rfl, by decide +kernel, by decide +kernel⟩
theorem has_is_fixed_point (D : Def K mg "_is_fixed_point" ["value"] (top 29)) (T : Txt mg) (S : Shp K w mg) (C1 : Has P w K mg base 1 "is_name" ["text"] (spIsName K)) (C2 : Has P w K mg base 2 "_are_variables" ["value", "counts"] (spAreVars K))
    (C3 : Has P w K mg base 3 "are_different" ["value", "counts"] (spAreDiff K)) : Has P w K mg base 4 "_is_fixed_point" ["value"] (spTest K "_is_fixed_point") := D.has fun f fd F => by
  obtain ⟨f1, fd1, G_is_name, g_is_name, k_is_name, b_is_name⟩ := C1
  obtain ⟨f2, fd2, G_are_variables, g_are_variables, k_are_variables, b_are_variables⟩ := C2
  obtain ⟨f3, fd3, G_are_different, g_are_different, k_are_different, b_are_different⟩ := C3
  have c_OWN_COUNTS := S.ownG
  refine F.ok sc_is_fixed_point (fun vs H Q E h => ?_) (fun cdv A outer s H vs Q E hr h => ?_)
  · obtain ⟨v, h, ds, rfl, _⟩ := h; rfl
  · obtain ⟨v, h, ds, rfl, dp, ok, tn, q⟩ := h
    have R_is_name : Room 1 _ := hr.mono (by decide)
    have R_are_variables : Room 2 _ := hr.mono (by decide)
    have R_are_different : Room 3 _ := hr.mono (by decide)
    refine ⟨_, PSs.nox (pss_cons (ps_if (PW.pt (pw_or (pt_not (pt_val (pe_call G_is_name R_is_name (by rfl) g_is_name k_is_name b_is_name .nil pass0 (pa_cons (pe_ix ix_tup (pv 0) pe_int (fun _ _ => rfl)) pa_nil)))) (pw_or1 (pt_not (pt_val (pe_call G_are_different R_are_different (by rfl) g_are_different k_are_different b_are_different .nil pass0 (pa_cons (pe_ix ix_tup (pv 0) pe_int (fun _ _ => rfl)) (pa_cons (pe_glob (v := .ref (He.ga K "OWN_COUNTS")) (by rfl) c_OWN_COUNTS rfl) pa_nil)))))))) (pss_one (ps_ret pe_bl)) pss_nil) (pss_one (ps_ret (pe_call G_are_variables R_are_variables (by rfl) g_are_variables k_are_variables b_are_variables .nil pass0 (pa_cons (pe_ix ix_tup (pv 0) pe_int (fun _ _ => rfl)) (pa_cons (pe_tup (pa_cons (pe_callB call_len_seq (by rfl) T.n_len PySem.boot_len (pa_cons (pe_ix ix_tup (pv 0) pe_int (fun _ _ => rfl)) pa_nil)) pa_nil)) pa_nil)))))), ?_⟩
    have two : ∃ n us as d, Nm n ∧ OwnOk us ∧ as.length = us.length ∧ Names as ∧ h.rest ds = [.str n, tS us, d, tS as] := by
      rcases (kd_tn _).2.2.2.2.1 tn with e | e <;> cases h <;> first | cases e; done | skip
      all_goals first | cases e; done | (obtain ⟨a1, a2, a3, a4, a5⟩ := ok; obtain ⟨d, rfl⟩ := List.length_eq_one_iff.mp a5; exact ⟨_, _, _, d, a1, a2, a3, a4, rfl⟩)
    obtain ⟨n, us, as, d, nn, ⟨o1, o6, on, od⟩, el, an, e⟩ := two
    obtain ⟨a, xs, rfl, hT, hx⟩ := hd_inv dp
    rw [e] at hx
    obtain ⟨v1, ws1, rfl, h1, hx⟩ := DpAll.cons_inv hx
    obtain ⟨v2, ws2, rfl, h2, hx⟩ := DpAll.cons_inv hx
    obtain ⟨v3, ws3, rfl, h3, hx⟩ := DpAll.cons_inv hx
    obtain ⟨v4, ws4, rfl, h4, hx⟩ := DpAll.cons_inv hx
    rw [Dp.str_inv h1] at hT
    refine ⟨_, rfl, a, _, _, _, rfl, rfl, hT, atI_nat (j := 1) rfl, .inl ⟨n, rfl, nn.short, _, rfl, ?_⟩⟩
    refine cF (k := !isNm n) (by rw [isNm_t nn]; rfl) ?_
    refine ⟨_, rfl, a, _, _, _, rfl, rfl, hT, atI_nat (j := 2) rfl, v2, us, _, [1, 2, 3, 4, 5, 6], rfl, h2, S.ownC _, names_short on, by omega, fun H1 s1 => ⟨_, rfl, ?_⟩⟩
    have m : (us.length : Int) ∈ ([1, 2, 3, 4, 5, 6] : List Int) := by simp only [List.mem_cons, List.not_mem_nil, or_false]; omega
    refine cF (k := !_) (by rw [diff_t on m od]; rfl) ?_
    have hT1 := Same.sqt s1 hT
    obtain ⟨t2, rfl, ht2⟩ := tS_inv (Dp.same s1 h2)
    refine ⟨_, rfl, a, _, _, _, rfl, rfl, hT1, atI_nat (j := 4) rfl, _, rfl, a, _, _, _, rfl, rfl, hT1, atI_nat (j := 2) rfl, t2, _, rfl, .inr ht2, (by show 1 ≤ sizeLine; decide), fun p np => ?_⟩
    refine ⟨v4, as, p, [((us.map V.str).length : Nat)], rfl, Dp.same (s1.trans (same_upd np)) h4, SqT.of upd_same, names_short an, by omega, fun H2 s2 => ?_⟩
    have m2 : (as.length : Int) ∈ ([((us.map V.str).length : Nat)] : List Int) := by rw [List.length_map, el]; exact List.mem_singleton.mpr rfl
    rw [vars_t an m2]
    exact q H2 ((s1.trans (same_upd np)).trans s2)
theorem sc_is_closure : FnScope ["value"] ["value"] (defScope (top 30)) := ⟨rfl, rfl, rfl, by decide +kernel, rfl, by decide +kernel, by decide +kernel⟩
theorem has_is_closure (D : Def K mg "_is_closure" ["value"] (top 30)) (T : Txt mg) (S : Shp K w mg) (C2 : Has P w K mg base 2 "_are_variables" ["value", "counts"] (spAreVars K))
    (C3 : Has P w K mg base 3 "are_different" ["value", "counts"] (spAreDiff K)) : Has P w K mg base 4 "_is_closure" ["value"] (spTest K "_is_closure") := D.has fun f fd F => by
  obtain ⟨f2, fd2, G_are_variables, g_are_variables, k_are_variables, b_are_variables⟩ := C2
  obtain ⟨f3, fd3, G_are_different, g_are_different, k_are_different, b_are_different⟩ := C3
  have c_TC_COUNTS := S.tcG
  refine F.ok sc_is_closure (fun vs H Q E h => ?_) (fun cdv A outer s H vs Q E hr h => ?_)
  · obtain ⟨v, h, ds, rfl, _⟩ := h; rfl
  · obtain ⟨v, h, ds, rfl, dp, ok, tn, q⟩ := h
    have R_are_variables : Room 2 _ := hr.mono (by decide)
    have R_are_different : Room 3 _ := hr.mono (by decide)
    refine ⟨_, PSs.nox (pss_one (ps_ret (pe_and (pe_call G_are_different R_are_different (by rfl) g_are_different k_are_different b_are_different .nil pass0 (pa_cons (pe_ix ix_tup (pv 0) pe_int (fun _ _ => rfl)) (pa_cons (pe_glob (v := .ref (He.ga K "TC_COUNTS")) (by rfl) c_TC_COUNTS rfl) pa_nil))) (pe_one (pe_call G_are_variables R_are_variables (by rfl) g_are_variables k_are_variables b_are_variables .nil pass0 (pa_cons (pe_ix ix_tup (pv 0) pe_int (fun _ _ => rfl)) (pa_cons (pe_tup (pa_cons (pe_callB call_len_seq (by rfl) T.n_len PySem.boot_len (pa_cons (pe_ix ix_tup (pv 0) pe_int (fun _ _ => rfl)) pa_nil)) pa_nil)) pa_nil))))))), ?_⟩
    have ek := (kd_tn _).2.2.2.2.2.1 tn
    cases h with
    | tc us as =>
      obtain ⟨lens, on, od, el, an, one⟩ := ok
      obtain ⟨d, rfl⟩ := List.length_eq_one_iff.mp one
      obtain ⟨a, xs, rfl, hT, hx⟩ := hd_inv dp
      obtain ⟨v1, ws1, rfl, h1, hx⟩ := DpAll.cons_inv hx
      obtain ⟨v2, ws2, rfl, h2, hx⟩ := DpAll.cons_inv hx
      obtain ⟨v3, ws3, rfl, h3, hx⟩ := DpAll.cons_inv hx
      refine ⟨_, rfl, a, _, _, _, rfl, rfl, hT, atI_nat (j := 1) rfl, v1, us, _, [2, 4, 6, 8], rfl, h1, S.tcC _, names_short on, by omega, fun H1 s1 => ⟨_, rfl, ?_⟩⟩
      have m : (us.length : Int) ∈ ([2, 4, 6, 8] : List Int) := by simp only [List.mem_cons, List.not_mem_nil, or_false]; omega
      refine cT (diff_t on m od) ?_
      have hT1 := Same.sqt s1 hT
      obtain ⟨t2, rfl, ht2⟩ := tS_inv (Dp.same s1 h1)
      refine ⟨_, rfl, a, _, _, _, rfl, rfl, hT1, atI_nat (j := 3) rfl, _, rfl, a, _, _, _, rfl, rfl, hT1, atI_nat (j := 1) rfl, t2, _, rfl, .inr ht2, (by show 1 ≤ sizeLine; decide), fun p np => ?_⟩
      refine ⟨v3, as, p, [((us.map V.str).length : Nat)], rfl, Dp.same (s1.trans (same_upd np)) h3, SqT.of upd_same, names_short an, by omega, fun H2 s2 => ?_⟩
      have m2 : (as.length : Int) ∈ ([((us.map V.str).length : Nat)] : List Int) := by rw [List.length_map, el]; exact List.mem_singleton.mpr rfl
      rw [vars_t an m2]
      exact q H2 ((s1.trans (same_upd np)).trans s2)
    | _ => cases ek
end
/-! ### whole numbers -/
def isI : V → Bool
  | .int _ => true
  | _ => false
def btw (lo hi : Int) : V → Bool
  | .int i => decide (lo ≤ i) && decide (i ≤ hi)
  | _ => false
def spWhole : Sp := fun vs H Q _ => ∃ x : V, vs = [x] ∧ flatV x = true ∧ Q (.bl (isI x)) H
def spBetween : Sp := fun vs H Q _ => ∃ (x : V) (lo hi : Int), vs = [x, .int lo, .int hi] ∧ flatV x = true ∧ Q (.bl (btw lo hi x)) H
section
variable {P : Program} {w : World} {K : PySem.W.Frag} {mg : Str → Option Value} {base : Heap}
theorem sc_is_whole : FnScope ["value"] ["value"] (defScope (top 4)) := ⟨rfl, rfl, rfl, by decide +kernel, rfl, by decide +kernel, by decide +kernel⟩
theorem has_is_whole (D : Def K mg "is_whole" ["value"] (top 4)) (T : Txt mg) : Has P w K mg base 1 "is_whole" ["value"] spWhole := D.has fun f fd F => by
  refine F.ok sc_is_whole (fun vs H Q E h => ?_) (fun cdv A outer s H vs Q E hr h => ?_)
  · obtain ⟨x, rfl, _⟩ := h; rfl
  · obtain ⟨x, rfl, fx, q⟩ := h
    refine ⟨_, PSs.nox (pss_one (ps_ret (pe_and (pe_callB call_isi (by rfl) T.n_isinstance (by decide +kernel) (pa_cons (pv 0) (pa_cons (pe_bltn (v := .ty "int") (by rfl) T.n_int (by decide +kernel) rfl) pa_nil))) (pe_one (pe_not (pe_callB call_isi (by rfl) T.n_isinstance (by decide +kernel) (pa_cons (pv 0) (pa_cons (pe_bltn (v := .ty "bool") (by rfl) T.n_bool (by decide +kernel) rfl) pa_nil)))))))), ?_⟩
    cases x with
    | int i => exact isi_q rfl (.base (.int i)) (b := true) (by decide +kernel) ⟨_, rfl, iteT (isi_q rfl (.base (.int i)) (b := false) (by decide +kernel) ⟨_, rfl, q⟩)⟩
    | bl b => exact isi_q rfl (.base (.bl b)) (b := true) (by decide +kernel) ⟨_, rfl, iteT (isi_q rfl (.base (.bl b)) (b := true) (by decide +kernel) ⟨_, rfl, q⟩)⟩
    | str z => exact isi_q rfl (.base (.str z)) (b := false) (by decide +kernel) ⟨_, rfl, iteF q⟩
    | non => exact isi_q rfl (.base .non) (b := false) (by decide +kernel) ⟨_, rfl, iteF q⟩
    | byt _ => cases fx
    | flt _ => cases fx
    | ref _ => cases fx
    | ty _ => cases fx
theorem sc_is_between : FnScope ["value", "low", "high"] ["value", "low", "high"] (defScope (top 5)) := ⟨rfl, rfl, rfl, by decide +kernel, rfl, by decide +kernel, by decide +kernel⟩
theorem has_is_between (D : Def K mg "is_between" ["value", "low", "high"] (top 5)) (C1 : Has P w K mg base 1 "is_whole" ["value"] spWhole) : Has P w K mg base 2 "is_between" ["value", "low", "high"] spBetween := D.has fun f fd F => by
  obtain ⟨f1, fd1, G_is_whole, g_is_whole, k_is_whole, b_is_whole⟩ := C1
  refine F.ok sc_is_between (fun vs H Q E h => ?_) (fun cdv A outer s H vs Q E hr h => ?_)
  · obtain ⟨x, lo, hi, rfl, _⟩ := h; rfl
  · obtain ⟨x, lo, hi, rfl, fx, q⟩ := h
    have R_is_whole : Room 1 _ := hr.mono (by decide)
    refine ⟨_, PSs.nox (pss_one (ps_ret (pe_and (pe_call G_is_whole R_is_whole (by rfl) g_is_whole k_is_whole b_is_whole .nil pass0 (pa_cons (pv 0) pa_nil)) (pe_one (pe_chain op_le op_le (pv 1) (pv 0) (pv 2)))))), ?_⟩
    refine ⟨_, rfl, x, rfl, fx, _, rfl, ?_⟩
    cases x with
    | int i =>
      refine iteT ⟨_, rfl, _, rfl, _, _, rfl, rfl, _, rfl, ?_⟩
      have q' : Q (.bl (decide (lo ≤ i) && decide (i ≤ hi))) H := q
      by_cases e : lo ≤ i
      · refine cT (decide_eq_true e) ⟨_, rfl, _, _, rfl, rfl, ?_⟩
        rw [decide_eq_true e] at q'
        exact q'
      · refine cF (decide_eq_false e) ?_
        rw [decide_eq_false e] at q'
        exact q'
    | bl b => exact iteF q
    | str z => exact iteF q
    | non => exact iteF q
    | byt _ => cases fx
    | flt _ => cases fx
    | ref _ => cases fx
    | ty _ => cases fx
end
section
variable {P : Program} {w : World} {K : PySem.W.Frag} {mg : Str → Option Value} {base : Heap}
theorem sc_is_guess : FnScope ["value"] ["value"] (defScope (top 31)) := ⟨rfl, rfl, rfl, by decide +kernel, rfl, by decide +kernel, by decide +kernel⟩
theorem has_is_guess (D : Def K mg "_is_guess" ["value"] (top 31)) (S : Shp K w mg) (C1 : Has P w K mg base 1 "is_name" ["text"] (spIsName K)) (C2 : Has P w K mg base 2 "is_between" ["value", "low", "high"] spBetween) : Has P w K mg base 4 "_is_guess" ["value"] (spTest K "_is_guess") := D.has fun f fd F => by
  obtain ⟨f1, fd1, G_is_name, g_is_name, k_is_name, b_is_name⟩ := C1
  obtain ⟨f2, fd2, G_is_between, g_is_between, k_is_between, b_is_between⟩ := C2
  obtain ⟨t1, c_LARGEST_GUESS⟩ := S.guess
  refine F.ok sc_is_guess (fun vs H Q E h => ?_) (fun cdv A outer s H vs Q E hr h => ?_)
  · obtain ⟨v, h, ds, rfl, _⟩ := h; rfl
  · obtain ⟨v, h, ds, rfl, dp, ok, tn, q⟩ := h
    have R_is_name : Room 1 _ := hr.mono (by decide)
    have R_is_between : Room 2 _ := hr.mono (by decide)
    refine ⟨_, PSs.nox (pss_one (ps_ret (pe_and (pe_call G_is_name R_is_name (by rfl) g_is_name k_is_name b_is_name .nil pass0 (pa_cons (pe_ix ix_tup (pv 0) pe_int (fun _ _ => rfl)) pa_nil)) (pe_one (pe_call G_is_between R_is_between (by rfl) g_is_between k_is_between b_is_between .nil pass0 (pa_cons (pe_ix ix_tup (pv 0) pe_int (fun _ _ => rfl)) (pa_cons pe_int (pa_cons (pe_glob (v := .int 3) (by rfl) c_LARGEST_GUESS ⟨_, rfl⟩) pa_nil)))))))), ?_⟩
    have ek := (kd_tn _).2.2.2.2.2.2 tn
    cases h with
    | gs n k =>
      obtain ⟨nn, k3, _⟩ := ok
      obtain ⟨a, xs, rfl, hT, hx⟩ := hd_inv dp
      obtain ⟨v1, ws1, rfl, h1, hx⟩ := DpAll.cons_inv hx
      obtain ⟨v2, ws2, rfl, h2, hx⟩ := DpAll.cons_inv hx
      rw [Dp.str_inv h1, Dp.int_inv h2] at hT
      refine ⟨_, rfl, a, _, _, _, rfl, rfl, hT, atI_nat (j := 1) rfl, .inl ⟨n, rfl, nn.short, _, rfl, ?_⟩⟩
      refine cT (isNm_t nn) ⟨_, rfl, a, _, _, _, rfl, rfl, hT, atI_nat (j := 2) rfl, .int k, 0, 3, rfl, rfl, ?_⟩
      have e : btw 0 3 (.int (k : Nat)) = true := by
        show (decide ((0 : Int) ≤ (k : Nat)) && decide (((k : Nat) : Int) ≤ 3)) = true
        rw [decide_eq_true (by omega), decide_eq_true (by omega)]; rfl
      rw [e]
      exact q H (.refl H)
    | _ => cases ek
def spShape (K : PySem.W.Frag) : Sp := fun vs H Q _ => ∃ (v : V) (h : Hd) (ds : List PyData), vs = [v] ∧ Dp K H v (h.data ds) ∧ h.Ok ds.length ∧ ∀ (H' : Hp), Same H H' → Q (.bl true) H'
theorem rest_len {h : Hd} {ds : List PyData} (ok : h.fits ds.length) : (h.rest ds).length + 1 = h.kd.many := by
  cases h with
  | no => have e := ok 1 rfl; show ds.length + 1 = 2; omega
  | ex us => have e := ok 1 rfl; show ds.length + 1 + 1 = 3; omega
  | al us => have e := ok 1 rfl; show ds.length + 1 + 1 = 3; omega
  | lfp n us as => have e := ok 1 rfl; show (ds ++ [tS as]).length + 1 + 1 + 1 = 5; rw [List.length_append, e]; rfl
  | pfp n us as => have e := ok 1 rfl; show (ds ++ [tS as]).length + 1 + 1 + 1 = 5; rw [List.length_append, e]; rfl
  | tc us as => have e := ok 1 rfl; show (ds ++ [tS as]).length + 1 + 1 = 4; rw [List.length_append, e]; rfl
  | gs n k => have e := ok 1 rfl; show ds.length + 1 + 1 + 1 = 4; omega
  | _ => rfl
theorem test_mem (K : PySem.W.Frag) (k : Kd) : (k.word, V.ref (He.ga K k.test)) ∈ testTab K := by
  cases k <;> simp [testTab, Kd.word, Kd.test]
structure Tests (P : Program) (w : World) (K : PySem.W.Frag) (mg : Str → Option Value) (base : Heap) : Prop where
  at_ : ∀ k : Kd, mg k.test = some (.ref (He.ga K k.test))
  has : ∀ k : Kd, ∃ ps, Has P w K mg base 4 k.test ps (spTest K k.test)
theorem sc_is_shape : FnScope ["value", "test"] ["value"] (defScope (top 33)) := ⟨rfl, rfl, rfl, by decide +kernel, rfl, by decide +kernel, by decide +kernel⟩
theorem has_is_shape (D : Def K mg "is_shape" ["value"] (top 33)) (T : Txt mg) (S : Shp K w mg) (C : Tests P w K mg base) : Has P w K mg base 5 "is_shape" ["value"] (spShape K) := D.has fun f fd F => by
  have c_LENGTHS := S.lens.g
  have c_TESTS := S.tests.g
  refine F.ok sc_is_shape (fun vs H Q E h => ?_) (fun cdv A outer s H vs Q E hr h => ?_)
  · obtain ⟨v, h, ds, rfl, _⟩ := h; rfl
  · obtain ⟨v, h, ds, rfl, dp, ok, q⟩ := h
    obtain ⟨ps1, f1, fd1, G1, g1, k1, b1⟩ := C.has h.kd
    have ef : f1 = He.ga K h.kd.test := by
      have := g1.symm.trans (C.at_ h.kd)
      injection this with this
      injection this
    have R1 : Room 4 _ := hr.mono (by decide)
    refine ⟨_, PSs.nox (pss_cons (ps_if (PW.pt (pw_or (pt_not (pt_val (pe_callB call_isi (by rfl) T.n_isinstance (by decide +kernel) (pa_cons (pv 0) (pa_cons (pe_bltn (v := .ty "tuple") (by rfl) T.n_tuple (by decide +kernel) rfl) pa_nil))))) (pw_or (pt_not (pt_truth (pv 0) (by intro _; rfl))) (pw_or1 (pt_not (pt_val (pe_callB call_isi (by rfl) T.n_isinstance (by decide +kernel) (pa_cons (pe_ix ix_tup (pv 0) pe_int (fun _ _ => rfl)) (pa_cons (pe_bltn (v := .ty "str") (by rfl) T.n_str (by decide +kernel) rfl) pa_nil))))))))) (pss_one (ps_ret pe_bl)) pss_nil) (pss_cons (ps_if (pt_cmpR op_ne (pe_kget (pe_glob (v := .ref (He.ga K "LENGTHS")) (by rfl) c_LENGTHS rfl) (pe_ix ix_tup (pv 0) pe_int (fun _ _ => rfl)) ⟨rfl, rfl, rfl, rfl⟩) (pe_callB call_len_seq (by rfl) T.n_len PySem.boot_len (pa_cons (pv 0) pa_nil)) (nomark _)) (pss_one (ps_ret pe_bl)) pss_nil) (pss_cons (ps_set (i := 1) sc_is_shape.nd rfl (Or.inl rfl) (pe_ix ix_kdict (pe_glob (v := .ref (He.ga K "TESTS")) (by rfl) c_TESTS rfl) (pe_ix ix_tup (pv 0) pe_int (fun _ _ => rfl)) (fun _ _ => rfl))) (pss_one (ps_ret (pe_callL (i := 1) G1 R1 rfl (Or.inl rfl) k1 b1 .nil pass0 (pa_cons (pv 0) pa_nil))))))), ?_⟩
    obtain ⟨a, xs, rfl, hT, hx⟩ := hd_inv dp
    refine ⟨_, rfl, _, _, _, _, _, rfl, .ty _, ty_tup hT, kit_ty (b := "tuple") (r := true) (by decide +kernel), _, rfl, iteF ?_⟩
    refine ⟨_, rfl, true, .inr (.inl ⟨_, hT, rfl⟩), iteF ?_⟩
    refine ⟨_, rfl, a, _, _, _, rfl, rfl, hT, atI_nat (j := 0) rfl, _, _, _, _, _, rfl, .ty _, .base (.str _), kit_ty (b := "str") (r := true) (by decide +kernel), _, rfl, iteF ?_⟩
    obtain ⟨es, n, DL⟩ := S.lens.d
    obtain ⟨u, n1, ru⟩ := S.lens.there _ _ (len_mem h.kd)
    refine ⟨_, es, n, rfl, DL, _, rfl, a, _, _, _, rfl, rfl, hT, atI_nat (j := 0) rfl, _, _, .int (h.kd.many : Nat), rfl, n1, ru, _, rfl, a, _, rfl, .inr hT, rfl, _, rfl, ?_⟩
    have el : decide (V.int (h.kd.many : Nat) = V.int (((V.str h.word :: xs).length : Nat) : Int)) = true := decide_eq_true (by rw [List.length_cons, DpAll.length hx, rest_len ok.fits])
    refine cF (k := !decide (V.int (h.kd.many : Nat) = V.int (((V.str h.word :: xs).length : Nat) : Int))) (by rw [el]; rfl) ?_
    refine ⟨_, rfl, a, _, _, _, rfl, rfl, hT, atI_nat (j := 0) rfl, _, _, _, rfl, rfl, S.tests.dct (test_mem K h.kd), ?_⟩
    refine ⟨?_, _, rfl, _, h, ds, rfl, dp, ok, rfl, q⟩
    rw [ef]
    rfl
end
/-! ### going through a formula -/
theorem sumN_append : ∀ (xs ys : List Nat), sumN (xs ++ ys) = sumN xs + sumN ys
  | [], ys => (Nat.zero_add _).symm
  | x :: xs, ys => by show x + sumN (xs ++ ys) = x + sumN xs + sumN ys; rw [sumN_append xs ys]; omega
theorem sumN_take {xs : List Nat} {i x : Nat} (h : xs[i]? = some x) : sumN (xs.take (i + 1)) = sumN (xs.take i) + x := by
  rw [List.take_add_one, h, sumN_append]; rfl
theorem sumN_take_le (xs : List Nat) (i : Nat) : sumN (xs.take i) ≤ sumN xs := by
  have e := sumN_append (xs.take i) (xs.drop i)
  rw [List.take_append_drop] at e
  omega
/-- the names that a formula gives to its own relation -/
def Hd.sgn (h : Hd) (s : Int) : Int := match h with
  | .no => -s
  | .pfp _ _ _ => 0
  | _ => s
def Hd.bname (h : Hd) : Option Str := h.bound.map (·.1)
def posStep (h : Hd) (xs : List (Str → Int → Bool)) (name : Str) (s : Int) : Bool := match h with
  | .rel n _ => s == 1 || !decide (n = name)
  | _ => if h.bname = some name then true else xs.all fun g => g name (h.sgn s)
def Fm.pos : Fm → Str → Int → Bool := Fm.fold posStep
theorem Fm.pos_mk (h : Hd) (ps : List Fm) (name : Str) (s : Int) : (Fm.mk h ps).pos name s = posStep h (ps.map Fm.pos) name s := congrFun (congrFun (Fm.fold_mk posStep h ps) name) s
theorem Fm.pos_rel {n : Str} {as : List Str} {ps : List Fm} {name : Str} {s : Int} : (Fm.mk (.rel n as) ps).pos name s = (s == 1 || !decide (n = name)) := Fm.pos_mk _ _ _ _
theorem Fm.pos_other {h : Hd} {ps : List Fm} {name : Str} {s : Int} (nr : h.kd ≠ .rel) : (Fm.mk h ps).pos name s = if h.bname = some name then true else ps.all fun p => p.pos name (h.sgn s) := by
  rw [Fm.pos_mk]
  have e : posStep h (ps.map Fm.pos) name s = if h.bname = some name then true else (ps.map Fm.pos).all fun g => g name (h.sgn s) := by cases h <;> first | rfl | exact absurd rfl nr
  rw [e, List.all_map]
  rfl
/-- the body of each lfp is positive in its name -/
inductive Fm.PosOk : Fm → Prop
  | mk {h : Hd} {ps : List Fm} (a : ∀ n us as, h = .lfp n us as → ∀ p, p ∈ ps → p.pos n 1 = true) (b : ∀ p, p ∈ ps → p.PosOk) : (Fm.mk h ps).PosOk
theorem Fm.PosOk.part {h : Hd} {ps : List Fm} (k : (Fm.mk h ps).PosOk) {p : Fm} (hp : p ∈ ps) : p.PosOk := by cases k with | mk a b => exact b p hp
theorem Fm.PosOk.here {n : Str} {us as : List Str} {ps : List Fm} (k : (Fm.mk (.lfp n us as) ps).PosOk) {p : Fm} (hp : p ∈ ps) : p.pos n 1 = true := by cases k with | mk a b => exact a n us as rfl p hp
/-! ### the promises -/
section
variable {P : Program} {w : World} {K : PySem.W.Frag} {mg : Str → Option Value} {base : Heap}
def spCS (K : PySem.W.Frag) (n : Nat) : Sp := fun vs H Q _ => ∃ (v : V) (l p : Int) (f : Fm), vs = [v, .int l, .int p] ∧ Dp K H v f.data ∧ f.Ok ∧ f.dep ≤ n ∧ (f.dep : Int) ≤ l ∧ (f.cnt : Int) ≤ p ∧ ∀ (H' : Hp), Same H H' → Q (.int (p - f.cnt)) H'
theorem sc_check_shapes : FnScope ["value", "levels_left", "parts_left", "part"] ["value", "levels_left", "parts_left"] (defScope (top 46)) := ⟨rfl, rfl, rfl, by decide +kernel, rfl, by decide +kernel, by decide +kernel⟩
theorem has_check_shapes (D : Def K mg "_check_shapes" ["value", "levels_left", "parts_left"] (top 46)) (C1 : Has P w K mg base 5 "is_shape" ["value"] (spShape K)) (C2 : Has P w K mg base 1 "inner" ["formula"] (spInner K)) :
    ∀ n : Nat, Has P w K mg base (6 + n) "_check_shapes" ["value", "levels_left", "parts_left"] (spCS K n) := by
  obtain ⟨f1, fd1, G_is_shape, g_is_shape, k_is_shape, b_is_shape⟩ := C1
  obtain ⟨f2, fd2, G_inner, g_inner, k_inner, b_inner⟩ := C2
  intro n
  induction n with
  | zero =>
    refine D.has fun f fd F => F.ok sc_check_shapes (fun vs H Q E h => ?_) (fun cdv A outer s H vs Q E hr h => ?_)
    · obtain ⟨v, l, p, f, rfl, _⟩ := h; rfl
    · obtain ⟨v, l, p, f, rfl, _, _, h0, _⟩ := h
      have := dep_pos f
      omega
  | succ n ih =>
    obtain ⟨f3, fd3, G_check_shapes, g_check_shapes, k_check_shapes, b_check_shapes⟩ := ih
    refine D.has fun f fd F => F.ok sc_check_shapes (fun vs H Q E h => ?_) (fun cdv A outer s H vs Q E hr h => ?_)
    · obtain ⟨v, l, p, f, rfl, _⟩ := h; rfl
    · obtain ⟨v, l, p, f, rfl, dp, ok, hn, hl, hp, q⟩ := h
      have R_is_shape : Room 5 _ := hr.mono (Nat.le_trans (by decide) (Nat.le_add_right 6 n))
      have R_inner : Room 1 _ := hr.mono (Nat.le_trans (by decide) (Nat.le_add_right 6 n))
      have R_check_shapes : Room (6 + n) _ := hr
      refine ⟨_, PSs.nox (pss_cons (ps_if (PW.pt (pw_or (pt_cmpR op_lt (pv 1) pe_int (nomark _)) (pw_or1 (pt_cmpR op_lt (pv 2) pe_int (nomark _))))) pss_never pss_nil) (pss_cons (ps_if (pt_not (pt_val (pe_call G_is_shape R_is_shape (by rfl) g_is_shape k_is_shape b_is_shape .nil pass0 (pa_cons (pv 0) pa_nil)))) pss_never pss_nil) (pss_cons (ps_aug (i := 2) sc_check_shapes.nd rfl (Or.inl rfl) pe_int ip_sub) (pss_cons (ps_for PassesOwn.never rfl (pi_tup (pe_call G_inner R_inner (by rfl) g_inner k_inner b_inner .nil pass0 (pa_cons (pv 0) pa_nil))) (pg_name (i := 3) sc_check_shapes.nd rfl (Or.inl rfl)) (pss_one (ps_set (i := 2) sc_check_shapes.nd rfl (Or.inl rfl) (pe_call G_check_shapes R_check_shapes (by rfl) g_check_shapes k_check_shapes b_check_shapes .nil pass0 (pa_cons (pv 3) (pa_cons (pe_op op_sub (pv 1) pe_int) (pa_cons (pv 2) pa_nil))))))) (pss_one (ps_ret (pv 2))))))), ?_⟩
      obtain ⟨h, ps⟩ := f
      rw [Fm.data_mk] at dp
      have hd1 : 1 ≤ (Fm.mk h ps).dep := dep_pos _
      have hc1 : (Fm.mk h ps).cnt = 1 + sumN (ps.map Fm.cnt) := Fm.cnt_mk h ps
      have fit : h.Ok (ps.map Fm.data).length := by rw [List.length_map]; exact ok.hd_
      refine ⟨_, rfl, _, _, rfl, rfl, _, rfl, cF (k := decide (l < 1)) (decide_eq_false (by omega)) ⟨_, rfl, _, _, rfl, rfl, _, rfl, cF (k := decide (p < 1)) (decide_eq_false (by omega)) ?_⟩⟩
      refine ⟨_, rfl, v, h, _, rfl, dp, fit, fun H1 s1 => ⟨_, rfl, iteF ?_⟩⟩
      refine ⟨_, rfl, _, _, rfl, rfl, ?_⟩
      refine ⟨_, rfl, v, h, _, rfl, Dp.same s1 dp, fit.fits, fun H2 r s2 hr2 => ?_⟩
      obtain ⟨b, ys, rfl, hb, hy⟩ := Dp.tup_inv hr2
      refine ⟨b, rfl, ⟨_, hb⟩, for_tup (K := K) (a := b) (xs := ys) (fun i σ H3 => ∃ y3, σ = [some v, some (.int l), some (.int (p - 1 - (sumN ((ps.map Fm.cnt).take i) : Nat))), y3] ∧ Same H2 H3)
        ⟨none, by show _ = [some v, some (.int l), some (.int (p - 1 - ((0 : Nat) : Int))), none]; rw [show (p - 1 - ((0 : Nat) : Int)) = p - 1 by omega]; rfl, .refl _⟩ (fun i σ H3 _ ⟨_, _, s3⟩ => Same.sqt s3 hb) ?_ ?_⟩
      · rintro i y σ H3 hi ⟨y3, rfl, s3⟩
        obtain ⟨d, hd, dpy⟩ := DpAll.get' hy hi
        obtain ⟨g, hg, rfl⟩ := get_map hd
        have mem := List.mem_of_getElem? hg
        have dl : g.dep < (Fm.mk h ps).dep := dep_part mem
        have eg : (ps.map Fm.cnt)[i]? = some g.cnt := by rw [List.getElem?_map, hg]; rfl
        have es := sumN_take eg
        have el := sumN_take_le (ps.map Fm.cnt) (i + 1)
        refine ⟨_, rfl, _, rfl, _, _, rfl, rfl, _, rfl, y, l - 1, _, g, rfl, Dp.same s3 dpy, ok.part mem, by omega, by omega, by omega, fun H4 s4 => ?_⟩
        refine ⟨some y, ?_, s3.trans s4⟩
        rw [es]
        have e5 : p - 1 - ((sumN ((ps.map Fm.cnt).take i) : Nat) : Int) - (g.cnt : Int) = p - 1 - ((sumN ((ps.map Fm.cnt).take i) + g.cnt : Nat) : Int) := by omega
        rw [e5]
        rfl
      · rintro σ H3 ⟨y3, rfl, s3⟩
        have ey : ys.length = ps.length := by rw [DpAll.length hy, List.length_map]
        have et : (ps.map Fm.cnt).take ys.length = ps.map Fm.cnt := List.take_of_length_le (by rw [List.length_map]; omega)
        refine ⟨_, rfl, ?_⟩
        have e6 : p - 1 - ((sumN ((ps.map Fm.cnt).take ys.length) : Nat) : Int) = p - (((Fm.mk h ps).cnt : Nat) : Int) := by rw [et, hc1]; omega
        show Q (.int (p - 1 - ((sumN ((ps.map Fm.cnt).take ys.length) : Nat) : Int))) H3
        rw [e6]
        exact q H3 ((s1.trans s2).trans s3)
theorem kw_rel : ∀ k : Kd, decide (V.str k.word = V.str "rel") = decide (k = .rel) := by intro k; cases k <;> decide +kernel
theorem kw_not : ∀ k : Kd, decide (V.str k.word = V.str "not") = decide (k = .no) := by intro k; cases k <;> decide +kernel
theorem kw_pfp : ∀ k : Kd, decide (V.str k.word = V.str "pfp") = decide (k = .pfp) := by intro k; cases k <;> decide +kernel
theorem kw_lfp : ∀ k : Kd, decide (V.str k.word = V.str "lfp") = decide (k = .lfp) := by intro k; cases k <;> decide +kernel
def spPos (K : PySem.W.Frag) (n : Nat) : Sp := fun vs H Q _ => ∃ (v : V) (name : Str) (sg : Int) (f : Fm), vs = [v, .str name, .int sg] ∧ Dp K H v f.data ∧ f.Ok ∧ f.dep ≤ n ∧ ∀ (H' : Hp), Same H H' → Q (.bl (f.pos name sg)) H'
theorem sc_is_positive : FnScope ["formula", "name", "sign", "part"] ["formula", "name", "sign"] (defScope (top 48)) := ⟨rfl, rfl, rfl, by decide +kernel, rfl, by decide +kernel, by decide +kernel⟩
theorem has_is_positive (D : Def K mg "is_positive_in" ["formula", "name", "sign"] (top 48)) (C1 : Has P w K mg base 1 "bound_name" ["formula"] (spBName K)) (C2 : Has P w K mg base 1 "inner" ["formula"] (spInner K)) :
    ∀ n : Nat, Has P w K mg base (2 + n) "is_positive_in" ["formula", "name", "sign"] (spPos K n) := by
  obtain ⟨f1, fd1, G_bound_name, g_bound_name, k_bound_name, b_bound_name⟩ := C1
  obtain ⟨f2, fd2, G_inner, g_inner, k_inner, b_inner⟩ := C2
  intro n
  induction n with
  | zero =>
    refine D.has fun f fd F => F.ok sc_is_positive (fun vs H Q E h => ?_) (fun cdv A outer s H vs Q E hr h => ?_)
    · obtain ⟨v, l, p, f, rfl, _⟩ := h; rfl
    · obtain ⟨v, l, p, f, rfl, _, _, h0, _⟩ := h
      have := dep_pos f
      omega
  | succ n ih =>
    obtain ⟨f3, fd3, G_is_positive_in, g_is_positive_in, k_is_positive_in, b_is_positive_in⟩ := ih
    refine D.has fun f fd F => F.ok sc_is_positive (fun vs H Q E h => ?_) (fun cdv A outer s H vs Q E hr h => ?_)
    · obtain ⟨v, l, p, f, rfl, _⟩ := h; rfl
    · obtain ⟨v, name, sg, f, rfl, dp, ok, hn, q⟩ := h
      have R_bound_name : Room 1 _ := hr.mono (Nat.le_trans (by decide) (Nat.le_add_right 2 n))
      have R_inner : Room 1 _ := hr.mono (Nat.le_trans (by decide) (Nat.le_add_right 2 n))
      have R_is_positive_in : Room (2 + n) _ := hr
      refine ⟨_, PSs.nox (pss_cons (ps_if (pt_cmpR op_eq (pe_ix ix_tup (pv 0) pe_int (fun _ _ => rfl)) pe_str (nomark _)) (pss_one (ps_ret (pe_or (pe_cmpR op_eq (pv 2) pe_int (nomark _)) (pe_one (pe_cmpR op_ne (pe_ix ix_tup (pv 0) pe_int (fun _ _ => rfl)) (pv 1) (nomark _)))))) pss_nil) (pss_cons (ps_if (pt_cmpR op_eq (pe_call G_bound_name R_bound_name (by rfl) g_bound_name k_bound_name b_bound_name .nil pass0 (pa_cons (pv 0) pa_nil)) (pv 1) (nomark _)) (pss_one (ps_ret pe_bl)) pss_nil) (pss_cons (ps_if (pt_cmpR op_eq (pe_ix ix_tup (pv 0) pe_int (fun _ _ => rfl)) pe_str (nomark _)) (pss_one (ps_set (i := 2) sc_is_positive.nd rfl (Or.inl rfl) (pe_un un_neg (pv 2)))) pss_nil) (pss_cons (ps_if (pt_cmpR op_eq (pe_ix ix_tup (pv 0) pe_int (fun _ _ => rfl)) pe_str (nomark _)) (pss_one (ps_set (i := 2) sc_is_positive.nd rfl (Or.inl rfl) pe_int)) pss_nil) (pss_cons (ps_for PassesOwn.never rfl (pi_tup (pe_call G_inner R_inner (by rfl) g_inner k_inner b_inner .nil pass0 (pa_cons (pv 0) pa_nil))) (pg_name (i := 3) sc_is_positive.nd rfl (Or.inl rfl)) (pss_one (ps_if (pt_not (pt_val (pe_call G_is_positive_in R_is_positive_in (by rfl) g_is_positive_in k_is_positive_in b_is_positive_in .nil pass0 (pa_cons (pv 3) (pa_cons (pv 1) (pa_cons (pv 2) pa_nil)))))) (pss_one (ps_ret pe_bl)) pss_nil))) (pss_one (ps_ret pe_bl))))))), ?_⟩
      obtain ⟨h, ps⟩ := f
      rw [Fm.data_mk] at dp
      have fit : h.Ok (ps.map Fm.data).length := by rw [List.length_map]; exact ok.hd_
      obtain ⟨a, xs, rfl, hT, hx⟩ := hd_inv dp
      refine ⟨_, rfl, a, _, _, _, rfl, rfl, hT, atI_nat (j := 0) rfl, rfl, _, rfl, ?_⟩
      by_cases kr : h.kd = .rel
      · refine cT (k := decide (V.str h.word = V.str "rel")) (by rw [kw_rel, decide_eq_true kr]) ?_
        cases h with
        | rel m as =>
          obtain ⟨v1, ws1, rfl, h1, _⟩ := DpAll.cons_inv hx
          rw [Dp.str_inv h1] at hT
          have q' := q H (.refl H)
          rw [Fm.pos_rel] at q'
          refine ⟨_, rfl, rfl, _, rfl, ?_⟩
          by_cases e1 : sg = 1
          · refine cT (decide_eq_true (by rw [e1])) ?_
            have e2 : (sg == 1) = true := by rw [e1]; rfl
            rw [e2] at q'
            exact q'
          · refine cF (decide_eq_false fun z => e1 (V.int.inj z)) ⟨_, rfl, a, _, _, _, rfl, rfl, hT, atI_nat (j := 1) rfl, _, rfl, rfl, ?_⟩
            have e2 : (sg == 1) = false := by simpa using e1
            rw [e2] at q'
            have e3 : decide (V.str m = V.str name) = decide (m = name) := decide_eq_decide.mpr ⟨fun y => V.str.inj y, fun y => congrArg V.str y⟩
            show Q (.bl (!decide (V.str m = V.str name))) H
            rw [e3]
            exact q'
        | _ => cases kr
      · refine cF (k := decide (V.str h.word = V.str "rel")) (by rw [kw_rel, decide_eq_false kr]) ?_
        rw [Fm.pos_other kr] at q
        refine ⟨_, rfl, _, h, _, rfl, dp, fit.fits, fun H1 r1 s1 er => ?_⟩
        have eb : scal r1 (.str name) = true ∧ decide (r1 = V.str name) = decide (h.bname = some name) := by
          rw [er]
          cases eb : h.bound with
          | none =>
            refine ⟨rfl, ?_⟩
            have e1 : h.bname = none := by unfold Hd.bname; rw [eb]; rfl
            rw [e1]
            rfl
          | some z =>
            refine ⟨rfl, ?_⟩
            have e1 : h.bname = some z.1 := by unfold Hd.bname; rw [eb]; rfl
            rw [e1]
            exact decide_eq_decide.mpr ⟨fun y => congrArg some (V.str.inj y), fun y => congrArg V.str (Option.some.inj y)⟩
        refine ⟨_, rfl, eb.1, _, rfl, ?_⟩
        by_cases hb : h.bname = some name
        · refine cT (k := decide (r1 = V.str name)) (by rw [eb.2, decide_eq_true hb]) ?_
          have q' := q H1 s1
          rw [if_pos hb] at q'
          exact q'
        · refine cF (k := decide (r1 = V.str name)) (by rw [eb.2, decide_eq_false hb]) ?_
          have q' : ∀ H', Same H H' → Q (.bl (ps.all fun p => p.pos name (h.sgn sg))) H' := fun H' s' => by
            have := q H' s'
            rw [if_neg hb] at this
            exact this
          have hT1 := Same.sqt s1 hT
          have go : ∀ (σ : L2.St), σ = [some (.ref a), some (.str name), some (.int (h.sgn sg)), none] → tSeq (tFor (iTup K (tCall (spInner K) [] E0 (tCons (tVar 0) tNil))) (gName 3) (tIfS (tNot (tB (tCall (spPos K n) [] E0 (tCons (tVar 3) (tCons (tVar 1) (tCons (tVar 2) tNil)))))) (tRet (tC (.bl false))) tNext)) (tRet (tC (.bl true)))
              { nx := fun _ H' => Q .non H', rt := Q } σ H1 := by
            rintro σ rfl
            refine ⟨_, rfl, _, h, _, rfl, Dp.same s1 dp, fit.fits, fun H2 r s2 hr2 => ?_⟩
            obtain ⟨b, ys, rfl, hb2, hy⟩ := Dp.tup_inv hr2
            refine ⟨b, rfl, ⟨_, hb2⟩, for_tup (K := K) (a := b) (xs := ys) (fun i σ H3 => ∃ y3, σ = [some (.ref a), some (.str name), some (.int (h.sgn sg)), y3] ∧ Same H2 H3 ∧ ∀ p, p ∈ ps.take i → p.pos name (h.sgn sg) = true)
              ⟨none, rfl, .refl _, fun p hp => by simp at hp⟩ (fun i σ H3 _ ⟨_, _, s3, _⟩ => Same.sqt s3 hb2) ?_ ?_⟩
            · rintro i y σ H3 hi ⟨y3, rfl, s3, all⟩
              obtain ⟨d, hd, dpy⟩ := DpAll.get' hy hi
              obtain ⟨g, hg, rfl⟩ := get_map hd
              have mem := List.mem_of_getElem? hg
              have dl : g.dep < (Fm.mk h ps).dep := dep_part mem
              refine ⟨_, rfl, _, rfl, _, rfl, y, name, h.sgn sg, g, rfl, Dp.same s3 dpy, ok.part mem, by omega, fun H4 s4 => ⟨_, rfl, ?_⟩⟩
              cases eg : g.pos name (h.sgn sg) with
              | false =>
                refine iteT ?_
                have e7 : (ps.all fun p => p.pos name (h.sgn sg)) = false := by
                  cases z : (ps.all fun p => p.pos name (h.sgn sg)) with
                  | false => rfl
                  | true => rw [List.all_eq_true.mp z g mem] at eg; cases eg
                have := q' H4 (((s1.trans s2).trans s3).trans s4)
                rw [e7] at this
                exact this
              | true =>
                refine iteF ⟨_, rfl, s3.trans s4, fun p hp => ?_⟩
                rw [List.take_add_one, hg] at hp
                rcases List.mem_append.mp hp with hp | hp
                · exact all p hp
                · have e8 : p = g := by simpa using hp
                  rw [e8]; exact eg
            · rintro σ H3 ⟨y3, rfl, s3, all⟩
              have ey : ys.length = ps.length := by rw [DpAll.length hy, List.length_map]
              have e9 : (ps.all fun p => p.pos name (h.sgn sg)) = true := List.all_eq_true.mpr fun p hp => all p (by rw [List.take_of_length_le (by omega)]; exact hp)
              have := q' H3 ((s1.trans s2).trans s3)
              rw [e9] at this
              exact this
          refine ⟨_, rfl, a, _, _, _, rfl, rfl, hT1, atI_nat (j := 0) rfl, rfl, _, rfl, ?_⟩
          by_cases kn : h.kd = .no
          · refine cT (k := decide (V.str h.word = V.str "not")) (by rw [kw_not, decide_eq_true kn]) ⟨_, rfl, _, rfl, ?_⟩
            refine ⟨_, rfl, a, _, _, _, rfl, rfl, hT1, atI_nat (j := 0) rfl, rfl, _, rfl, ?_⟩
            refine cF (k := decide (V.str h.word = V.str "pfp")) (by rw [kw_pfp, decide_eq_false (by rw [kn]; exact fun z => nomatch z)]) ?_
            refine go _ ?_
            have e9 : h.sgn sg = -sg := by cases h <;> first | rfl | cases kn
            rw [e9]
            rfl
          · refine cF (k := decide (V.str h.word = V.str "not")) (by rw [kw_not, decide_eq_false kn]) ?_
            refine ⟨_, rfl, a, _, _, _, rfl, rfl, hT1, atI_nat (j := 0) rfl, rfl, _, rfl, ?_⟩
            by_cases kp : h.kd = .pfp
            · refine cT (k := decide (V.str h.word = V.str "pfp")) (by rw [kw_pfp, decide_eq_true kp]) ?_
              refine go _ ?_
              have e9 : h.sgn sg = 0 := by cases h <;> first | rfl | cases kp
              rw [e9]
              rfl
            · refine cF (k := decide (V.str h.word = V.str "pfp")) (by rw [kw_pfp, decide_eq_false kp]) ?_
              refine go _ ?_
              have e9 : h.sgn sg = sg := by cases h <;> first | rfl | exact absurd rfl kn | exact absurd rfl kp
              rw [e9]
              rfl
def spCF (K : PySem.W.Frag) (n : Nat) : Sp := fun vs H Q _ => ∃ (v : V) (f : Fm), vs = [v] ∧ Dp K H v f.data ∧ f.Ok ∧ f.PosOk ∧ f.dep ≤ n ∧ ∀ (H' : Hp), Same H H' → Q .non H'
theorem sc_check_fixed_points : FnScope ["formula", "part"] ["formula"] (defScope (top 49)) := ⟨rfl, rfl, rfl, by decide +kernel, rfl, by decide +kernel, by decide +kernel⟩
theorem has_check_fixed_points (D : Def K mg "_check_fixed_points" ["formula"] (top 49)) (C1 : ∀ n, Has P w K mg base (2 + n) "is_positive_in" ["formula", "name", "sign"] (spPos K n)) (C2 : Has P w K mg base 1 "inner" ["formula"] (spInner K)) :
    ∀ n : Nat, Has P w K mg base (3 + n) "_check_fixed_points" ["formula"] (spCF K n) := by
  obtain ⟨f2, fd2, G_inner, g_inner, k_inner, b_inner⟩ := C2
  intro n
  induction n with
  | zero =>
    refine D.has fun f fd F => F.ok sc_check_fixed_points (fun vs H Q E h => ?_) (fun cdv A outer s H vs Q E hr h => ?_)
    · obtain ⟨v, f, rfl, _⟩ := h; rfl
    · obtain ⟨v, f, rfl, _, _, _, h0, _⟩ := h
      have := dep_pos f
      omega
  | succ n ih =>
    obtain ⟨f1, fd1, G_is_positive_in, g_is_positive_in, k_is_positive_in, b_is_positive_in⟩ := C1 n
    obtain ⟨f3, fd3, G_check_fixed_points, g_check_fixed_points, k_check_fixed_points, b_check_fixed_points⟩ := ih
    refine D.has fun f fd F => F.ok sc_check_fixed_points (fun vs H Q E h => ?_) (fun cdv A outer s H vs Q E hr h => ?_)
    · obtain ⟨v, f, rfl, _⟩ := h; rfl
    · obtain ⟨v, f, rfl, dp, ok, po, hn, q⟩ := h
      have R_is_positive_in : Room (2 + n) _ := hr.mono (Nat.add_le_add_right (by decide) n)
      have R_inner : Room 1 _ := hr.mono (Nat.le_trans (by decide) (Nat.le_add_right 3 n))
      have R_check_fixed_points : Room (3 + n) _ := hr
      refine ⟨_, PSs.nox (pss_cons (ps_if (PW.pt (pw_and (pt_cmpR op_eq (pe_ix ix_tup (pv 0) pe_int (fun _ _ => rfl)) pe_str (nomark _)) (pw_and1 (pt_not (pt_val (pe_call G_is_positive_in R_is_positive_in (by rfl) g_is_positive_in k_is_positive_in b_is_positive_in .nil pass0 (pa_cons (pe_ix ix_tup (pv 0) pe_int (fun _ _ => rfl)) (pa_cons (pe_ix ix_tup (pv 0) pe_int (fun _ _ => rfl)) (pa_cons pe_int pa_nil))))))))) pss_never pss_nil) (pss_one (ps_for PassesOwn.never rfl (pi_tup (pe_call G_inner R_inner (by rfl) g_inner k_inner b_inner .nil pass0 (pa_cons (pv 0) pa_nil))) (pg_name (i := 1) sc_check_fixed_points.nd rfl (Or.inl rfl)) (pss_one (ps_expr (pe_call G_check_fixed_points R_check_fixed_points (by rfl) g_check_fixed_points k_check_fixed_points b_check_fixed_points .nil pass0 (pa_cons (pv 1) pa_nil))))))), ?_⟩
      obtain ⟨h, ps⟩ := f
      rw [Fm.data_mk] at dp
      have fit : h.Ok (ps.map Fm.data).length := by rw [List.length_map]; exact ok.hd_
      obtain ⟨a, xs, rfl, hT, hx⟩ := hd_inv dp
      have go : ∀ (H1 : Hp), Same H H1 → tFor (iTup K (tCall (spInner K) [] E0 (tCons (tVar 0) tNil))) (gName 1) (tDrop (tCall (spCF K n) [] E0 (tCons (tVar 1) tNil))) { nx := fun _ H' => Q .non H', rt := Q } [some (.ref a), none] H1 := by
        intro H1 s1
        refine ⟨_, rfl, _, h, _, rfl, Dp.same s1 dp, fit.fits, fun H2 r s2 hr2 => ?_⟩
        obtain ⟨b, ys, rfl, hb2, hy⟩ := Dp.tup_inv hr2
        refine ⟨b, rfl, ⟨_, hb2⟩, for_tup (K := K) (a := b) (xs := ys) (fun i σ H3 => ∃ y3, σ = [some (.ref a), y3] ∧ Same H2 H3) ⟨none, rfl, .refl _⟩ (fun i σ H3 _ ⟨_, _, s3⟩ => Same.sqt s3 hb2) ?_ ?_⟩
        · rintro i y σ H3 hi ⟨y3, rfl, s3⟩
          obtain ⟨d, hd, dpy⟩ := DpAll.get' hy hi
          obtain ⟨g, hg, rfl⟩ := get_map hd
          have mem := List.mem_of_getElem? hg
          have dl : g.dep < (Fm.mk h ps).dep := dep_part mem
          exact ⟨_, rfl, y, g, rfl, Dp.same s3 dpy, ok.part mem, po.part mem, by omega, fun H4 s4 => ⟨_, rfl, s3.trans s4⟩⟩
        · rintro σ H3 ⟨y3, rfl, s3⟩
          exact q H3 ((s1.trans s2).trans s3)
      refine ⟨_, rfl, a, _, _, _, rfl, rfl, hT, atI_nat (j := 0) rfl, rfl, _, rfl, ?_⟩
      by_cases kl : h.kd = .lfp
      · refine cT (k := decide (V.str h.word = V.str "lfp")) (by rw [kw_lfp, decide_eq_true kl]) ?_
        cases h with
        | lfp m us as =>
          have l1 : (ps.map Fm.data).length = 1 := fit.fits 1 rfl
          rw [List.length_map] at l1
          obtain ⟨g, rfl⟩ := List.length_eq_one_iff.mp l1
          obtain ⟨v1, ws1, rfl, h1, hx⟩ := DpAll.cons_inv hx
          obtain ⟨v2, ws2, rfl, h2, hx⟩ := DpAll.cons_inv hx
          obtain ⟨v3, ws3, rfl, h3, hx⟩ := DpAll.cons_inv hx
          rw [Dp.str_inv h1] at hT
          have mem : g ∈ [g] := List.mem_singleton.mpr rfl
          have dl : g.dep < (Fm.mk (.lfp m us as) [g]).dep := dep_part mem
          refine ⟨_, rfl, a, _, _, _, rfl, rfl, hT, atI_nat (j := 3) rfl, _, rfl, a, _, _, _, rfl, rfl, hT, atI_nat (j := 1) rfl, v3, m, 1, g, rfl, h3, ok.part mem, by omega, fun H1 s1 => ⟨_, rfl, ?_⟩⟩
          refine cF (k := !_) (by rw [po.here mem]; rfl) ?_
          exact go H1 s1
        | _ => cases kl
      · exact cF (k := decide (V.str h.word = V.str "lfp")) (by rw [kw_lfp, decide_eq_false kl]) (go H (.refl H))
end
/-! ### the symbols of a formula -/
def symStep (h : Hd) (xs : List (List (Str × Nat))) : List (Str × Nat) := match h with
  | .rel n as => [(n, as.length)]
  | _ => xs.flatten.filter fun p => !decide (h.bname = some p.1)
def Fm.syms : Fm → List (Str × Nat) := Fm.fold symStep
theorem Fm.syms_mk (h : Hd) (ps : List Fm) : (Fm.mk h ps).syms = symStep h (ps.map Fm.syms) := Fm.fold_mk symStep h ps
theorem Fm.syms_rel {n : Str} {as : List Str} {ps : List Fm} : (Fm.mk (.rel n as) ps).syms = [(n, as.length)] := Fm.syms_mk _ _
theorem Fm.syms_mem {h : Hd} {ps : List Fm} (nr : h.kd ≠ .rel) {p : Str × Nat} : p ∈ (Fm.mk h ps).syms ↔ h.bname ≠ some p.1 ∧ ∃ g, g ∈ ps ∧ p ∈ g.syms := by
  have e : symStep h (ps.map Fm.syms) = (ps.map Fm.syms).flatten.filter fun p => !decide (h.bname = some p.1) := by cases h <;> first | rfl | exact absurd rfl nr
  rw [Fm.syms_mk, e, List.mem_filter, List.mem_flatten]
  constructor
  · rintro ⟨⟨l, hl, hp⟩, hb⟩
    obtain ⟨g, hg, rfl⟩ := List.mem_map.mp hl
    exact ⟨by simpa using hb, g, hg, hp⟩
  · rintro ⟨hb, g, hg, hp⟩
    exact ⟨⟨_, List.mem_map.mpr ⟨g, hg, rfl⟩, hp⟩, by simpa using hb⟩
abbrev ArE := Str → Option Nat
def Hd.env (h : Hd) (Γ : ArE) : ArE := match h.bound with
  | some (n, k) => fun m => if m = n then some k else Γ m
  | none => Γ
/-- each name has the arity that Γ, or what binds it, says -/
inductive Fm.Typed : ArE → Fm → Prop
  | rel {Γ : ArE} {n : Str} {as : List Str} {ps : List Fm} (e : Γ n = some as.length) : Fm.Typed Γ (.mk (.rel n as) ps)
  | other {Γ : ArE} {h : Hd} {ps : List Fm} (nr : h.kd ≠ .rel) (b : ∀ p, p ∈ ps → Fm.Typed (h.env Γ) p) : Fm.Typed Γ (.mk h ps)
theorem Fm.Typed.part {Γ : ArE} {h : Hd} {ps : List Fm} (nr : h.kd ≠ .rel) (t : (Fm.mk h ps).Typed Γ) {p : Fm} (hp : p ∈ ps) : p.Typed (h.env Γ) := by
  cases t with
  | rel e => exact absurd rfl nr
  | other _ b => exact b p hp
theorem typed_sym : ∀ (f : Fm) (Γ : ArE), f.Typed Γ → ∀ p, p ∈ f.syms → Γ p.1 = some p.2 := fun f => Fm.ind (P := fun f => ∀ (Γ : ArE), f.Typed Γ → ∀ p, p ∈ f.syms → Γ p.1 = some p.2) (fun h ps ih Γ t p hp => by
  by_cases nr : h.kd = .rel
  · cases h with
    | rel n as =>
      rw [Fm.syms_rel] at hp
      have e := List.mem_singleton.mp hp
      subst e
      cases t with
      | rel e => exact e
      | other nr2 _ => exact absurd rfl nr2
    | _ => cases nr
  · obtain ⟨hb, g, hg, hpg⟩ := (Fm.syms_mem nr).mp hp
    have e := ih g hg _ (t.part nr hg) p hpg
    unfold Hd.env at e
    cases hbd : h.bound with
    | none => rw [hbd] at e; exact e
    | some z =>
      obtain ⟨n, k⟩ := z
      rw [hbd] at e
      have ne : p.1 ≠ n := fun z => hb (by unfold Hd.bname; rw [hbd, z]; rfl)
      simpa [ne] using e) f
theorem sum_lens : ∀ (ps : List Fm), (∀ p, p ∈ ps → p.syms.length ≤ p.cnt) → (ps.map Fm.syms).flatten.length ≤ sumN (ps.map Fm.cnt)
  | [], _ => Nat.zero_le _
  | p :: ps, h => by
    have a := h p (List.mem_cons_self ..)
    have b := sum_lens ps fun q hq => h q (List.mem_cons_of_mem _ hq)
    show ((p.syms) ++ (ps.map Fm.syms).flatten).length ≤ p.cnt + sumN (ps.map Fm.cnt)
    rw [List.length_append]
    omega
theorem syms_cnt : ∀ f : Fm, f.syms.length ≤ f.cnt := Fm.ind fun h ps ih => by
  rw [Fm.syms_mk, Fm.cnt_mk]
  have := sum_lens ps ih
  by_cases nr : h.kd = .rel
  · have e : (symStep h (ps.map Fm.syms)).length = 1 := by cases h <;> first | rfl | cases nr
    omega
  · have e : symStep h (ps.map Fm.syms) = (ps.map Fm.syms).flatten.filter fun p => !decide (h.bname = some p.1) := by cases h <;> first | rfl | exact absurd rfl nr
    rw [e]
    have := List.length_filter_le (fun p => !decide (h.bname = some p.1)) (ps.map Fm.syms).flatten
    omega
/-! dicts of names and numbers -/
def enc (p : Str × Nat) : Key × V := (Sum.inr p.1, .int (p.2 : Nat))
theorem val_enc : ∀ {l : List (Str × Nat)} {n : Str} {v : V}, valV (l.map enc) (Sum.inr n) = some v → ∃ a, (n, a) ∈ l ∧ v = .int (a : Nat)
  | [], n, v, h => by cases h
  | p :: l, n, v, h => by
    by_cases e : p.1 = n
    · rw [List.map_cons, valV_pos (by show Sum.inr p.1 = Sum.inr n; rw [e])] at h
      exact ⟨p.2, by rw [← e]; exact List.mem_cons_self .., (Option.some.inj h).symm⟩
    · rw [List.map_cons, valV_neg (by intro z; exact e (Sum.inr.inj z))] at h
      obtain ⟨a, h1, h2⟩ := val_enc h
      exact ⟨a, List.mem_cons_of_mem _ h1, h2⟩
theorem val_enc_none : ∀ {l : List (Str × Nat)} {n : Str}, valV (l.map enc) (Sum.inr n) = none ↔ ¬ n ∈ l.map (·.1)
  | [], n => by simp [valV]
  | p :: l, n => by
    by_cases e : p.1 = n
    · rw [List.map_cons, valV_pos (by show Sum.inr p.1 = Sum.inr n; rw [e])]
      simp [e]
    · rw [List.map_cons, valV_neg (by intro z; exact e (Sum.inr.inj z)), val_enc_none]
      have e2 : ¬ n = p.1 := fun z => e z.symm
      simp [e2]
theorem drop_enc (l : List (Str × Nat)) (n : Str) : dropK (l.map enc) (Sum.inr n) = (l.filter fun p => !decide (p.1 = n)).map enc := by
  unfold dropK
  rw [List.filter_map]
  congr 1
  refine List.filter_congr fun p _ => ?_
  show decide ((Sum.inr p.1 : Key) ≠ Sum.inr n) = !decide (p.1 = n)
  by_cases e : p.1 = n
  · rw [decide_eq_true e]
    exact decide_eq_false fun z => z (congrArg Sum.inr e)
  · rw [decide_eq_false e]
    exact decide_eq_true fun z => e (Sum.inr.inj z)
theorem val_of : ∀ {l : List (Str × Nat)} {n : Str} {a : Nat}, (l.map (·.1)).Nodup → (n, a) ∈ l → valV (l.map enc) (Sum.inr n) = some (.int (a : Nat))
  | [], _, _, _, h => nomatch h
  | p :: l, n, a, nd, h => by
    rw [List.map_cons] at nd
    obtain ⟨nd1, nd2⟩ := List.nodup_cons.mp nd
    by_cases e : p.1 = n
    · rw [List.map_cons, valV_pos (by show Sum.inr p.1 = Sum.inr n; rw [e])]
      rcases List.mem_cons.mp h with e1 | h
      · rw [← e1]; rfl
      · exact absurd (by rw [e]; exact List.mem_map.mpr ⟨_, h, rfl⟩) nd1
    · rw [List.map_cons, valV_neg (by intro z; exact e (Sum.inr.inj z))]
      rcases List.mem_cons.mp h with e1 | h
      · exact absurd (by rw [← e1]) e
      · exact val_of nd2 h
theorem nodup_val {l : List (Str × Nat)} {n : Str} {a b : Nat} : (l.map (·.1)).Nodup → (n, a) ∈ l → (n, b) ∈ l → a = b := by
  induction l with
  | nil => intro _ h; cases h
  | cons p l ih =>
    intro nd h1 h2
    rw [List.map_cons] at nd
    obtain ⟨nd1, nd2⟩ := List.nodup_cons.mp nd
    rcases List.mem_cons.mp h1 with e1 | h1
    · rcases List.mem_cons.mp h2 with e2 | h2
      · rw [← e1] at e2; exact (congrArg Prod.snd e2).symm
      · exact absurd (by rw [← e1]; exact List.mem_map.mpr ⟨_, h2, rfl⟩) nd1
    · rcases List.mem_cons.mp h2 with e2 | h2
      · exact absurd (by rw [← e2]; exact List.mem_map.mpr ⟨_, h1, rfl⟩) nd1
      · exact ih nd2 h1 h2
/-- the dict l holds just what stands in xs -/
structure DictOf (l xs : List (Str × Nat)) : Prop where
  nd : (l.map (·.1)).Nodup
  mem : ∀ p, p ∈ l ↔ p ∈ xs
theorem DictOf.add {l xs : List (Str × Nat)} {n : Str} {a : Nat} (d : DictOf l xs) (h : ¬ n ∈ l.map (·.1)) : DictOf (l ++ [(n, a)]) (xs ++ [(n, a)]) := by
  refine ⟨?_, fun p => by rw [List.mem_append, List.mem_append, d.mem]⟩
  rw [List.map_append, List.nodup_append]
  refine ⟨d.nd, by simp, fun x hx y hy => ?_⟩
  have : y = n := by simpa using hy
  rw [this]
  exact fun z => h (by rw [← z]; exact hx)
theorem DictOf.keep {l xs : List (Str × Nat)} {p : Str × Nat} (d : DictOf l xs) (h : p ∈ l) : DictOf l (xs ++ [p]) :=
  ⟨d.nd, fun q => by
    rw [List.mem_append, d.mem]
    exact ⟨.inl, fun z => z.elim id fun z => by rw [List.mem_singleton.mp z]; exact (d.mem p).mp h⟩⟩
theorem DictOf.as {l xs ys : List (Str × Nat)} (d : DictOf l xs) (e : ∀ p, p ∈ xs ↔ p ∈ ys) : DictOf l ys := ⟨d.nd, fun p => (d.mem p).trans (e p)⟩
theorem DictOf.len {l xs : List (Str × Nat)} (d : DictOf l xs) : l.length ≤ xs.length :=
  sub_len l xs (List.Pairwise.of_map (·.1) (fun a b hne e => hne (by rw [e])) d.nd) fun p hp => (d.mem p).mp hp
theorem take_flat {ps : List Fm} {i : Nat} {g : Fm} (h : ps[i]? = some g) : ((ps.take (i + 1)).map Fm.syms).flatten = ((ps.take i).map Fm.syms).flatten ++ g.syms := by
  rw [List.take_add_one, h, List.map_append, List.flatten_append]
  show _ ++ (g.syms ++ []) = _
  rw [List.append_nil]
/-- d is neither a list nor a tuple -/
def NotSeq (H : Hp) (d : Addr) : Prop := ∃ kvs, H d = some (.dK kvs)
section
variable {K : PySem.W.Frag} {H H' : Hp} {d : Addr}
theorem Kp.sqt' {a : Addr} {xs : List V} (k : Kp d H H') (n : NotSeq H d) (h : SqT K H a xs) : SqT K H' a xs := by
  obtain ⟨kvs, n⟩ := n
  rcases h with (h | ⟨o, h⟩) | h
  · exact .inl (.inl (k _ _ h (ne_of h n (fun z => nomatch z))))
  · exact .inl (.inr ⟨o, k _ _ h (ne_of h n (fun z => nomatch z))⟩)
  · exact .inr h
theorem Kp.sql' {a : Addr} {xs : List V} (k : Kp d H H') (n : NotSeq H d) (h : SqL K H a xs) : SqL K H' a xs := by
  obtain ⟨kvs, n⟩ := n
  rcases h with (h | ⟨o, h⟩) | h
  · exact .inl (.inl (k _ _ h (ne_of h n (fun z => nomatch z))))
  · exact .inl (.inr ⟨o, k _ _ h (ne_of h n (fun z => nomatch z))⟩)
  · exact .inr h
mutual
theorem Dp.kpD (k : Kp d H H') (n : NotSeq H d) : ∀ {v : V} {t : PyData}, Dp K H v t → Dp K H' v t
  | _, _, .non => .non
  | _, _, .bl b => .bl b
  | _, _, .int i => .int i
  | _, _, .str x => .str x
  | _, _, .lst h t => .lst (k.sql' n h) (DpAll.kpD k n t)
  | _, _, .tup h t => .tup (k.sqt' n h) (DpAll.kpD k n t)
theorem DpAll.kpD (k : Kp d H H') (n : NotSeq H d) : ∀ {vs : List V} {ts : List PyData}, DpAll K H vs ts → DpAll K H' vs ts
  | _, _, .nil => .nil
  | _, _, .cons h t => .cons (Dp.kpD k n h) (DpAll.kpD k n t)
end
end
section
variable {P : Program} {w : World} {K : PySem.W.Frag} {mg : Str → Option Value} {base : Heap}
def spAr (K : PySem.W.Frag) (n : Nat) : Sp := fun vs H Q _ => ∃ (v : V) (f : Fm) (Γ : ArE), vs = [v] ∧ Dp K H v f.data ∧ f.Ok ∧ f.Typed Γ ∧ f.dep ≤ n ∧ f.cnt ≤ 2000 ∧
  ∀ (H' : Hp) (d : Addr) (l : List (Str × Nat)), Same H H' → H d = none → H' d = some (.dK (l.map enc)) → DictOf l f.syms → Q (.ref d) H'
theorem sc_arities : FnScope ["formula", "found", "part", "within", "name", "bound"] ["formula"] (defScope (top 47)) := ⟨rfl, rfl, rfl, by decide +kernel, rfl, by decide +kernel, by decide +kernel⟩
theorem has_arities (D : Def K mg "arities_in" ["formula"] (top 47)) (T : Txt mg) (C1 : Has P w K mg base 1 "bound_name" ["formula"] (spBName K)) (C2 : Has P w K mg base 1 "inner" ["formula"] (spInner K)) (C3 : Has P w K mg base 1 "bound_arity" ["formula"] (spBArity K)) :
    ∀ n : Nat, Has P w K mg base (2 + n) "arities_in" ["formula"] (spAr K n) := by
  obtain ⟨f1, fd1, G_bound_name, g_bound_name, k_bound_name, b_bound_name⟩ := C1
  obtain ⟨f2, fd2, G_inner, g_inner, k_inner, b_inner⟩ := C2
  obtain ⟨f4, fd4, G_bound_arity, g_bound_arity, k_bound_arity, b_bound_arity⟩ := C3
  intro n
  induction n with
  | zero =>
    refine D.has fun f fd F => F.ok sc_arities (fun vs H Q E h => ?_) (fun cdv A outer s H vs Q E hr h => ?_)
    · obtain ⟨v, f, Γ, rfl, _⟩ := h; rfl
    · obtain ⟨v, f, Γ, rfl, _, _, _, h0, _⟩ := h
      have := dep_pos f
      omega
  | succ n ih =>
    obtain ⟨f3, fd3, G_arities_in, g_arities_in, k_arities_in, b_arities_in⟩ := ih
    refine D.has fun f fd F => F.ok sc_arities (fun vs H Q E h => ?_) (fun cdv A outer s H vs Q E hr h => ?_)
    · obtain ⟨v, f, Γ, rfl, _⟩ := h; rfl
    · obtain ⟨v, f, Γ, rfl, dp, ok, ty, hn, hc, q⟩ := h
      have R_bound_name : Room 1 _ := hr.mono (Nat.le_trans (by decide) (Nat.le_add_right 2 n))
      have R_bound_arity : Room 1 _ := hr.mono (Nat.le_trans (by decide) (Nat.le_add_right 2 n))
      have R_inner : Room 1 _ := hr.mono (Nat.le_trans (by decide) (Nat.le_add_right 2 n))
      have R_arities_in : Room (2 + n) _ := hr
      refine ⟨_, PSs.nox (pss_cons (ps_if (pt_cmpR op_eq (pe_ix ix_tup (pv 0) pe_int (fun _ _ => rfl)) pe_str (nomark _)) (pss_one (ps_ret (pe_disp (pps_cons (pe_ix ix_tup (pv 0) pe_int (fun _ _ => rfl)) (pe_callB call_len_seq (by rfl) T.n_len PySem.boot_len (pa_cons (pe_ix ix_tup (pv 0) pe_int (fun _ _ => rfl)) pa_nil)) pps_nil) (by rfl) (by rfl) (fun z => by cases z) (by decide)))) pss_nil) (pss_cons (ps_set (i := 1) sc_arities.nd rfl (Or.inl rfl) pe_dnewK) (pss_cons (ps_for PassesOwn.never rfl (pi_tup (pe_call G_inner R_inner (by rfl) g_inner k_inner b_inner .nil pass0 (pa_cons (pv 0) pa_nil))) (pg_name (i := 2) sc_arities.nd rfl (Or.inl rfl)) (pss_cons (ps_set (i := 3) sc_arities.nd rfl (Or.inl rfl) (pe_call G_arities_in R_arities_in (by rfl) g_arities_in k_arities_in b_arities_in .nil pass0 (pa_cons (pv 2) pa_nil))) (pss_one (ps_lock (ps_for PassesOwn.never rfl (pi_keys (pv 3)) (pg_name (i := 4) sc_arities.nd rfl (Or.inl rfl)) (pss_one (ps_if (pt_cmpR op_ne (pe_dsetd (pv 1) (pv 4) (pe_dget (hu_of hr) (pv 3) (pv 4) (fun _ _ => rfl)) ⟨rfl, rfl, rfl, rfl⟩) (pe_dget (hu_of hr) (pv 3) (pv 4) (fun _ _ => rfl)) (nomark _)) pss_never pss_nil))))))) (pss_cons (ps_set (i := 5) sc_arities.nd rfl (Or.inl rfl) (pe_call G_bound_name R_bound_name (by rfl) g_bound_name k_bound_name b_bound_name .nil pass0 (pa_cons (pv 0) pa_nil))) (pss_cons (ps_if (pt_cmp (pc_dinN (hu_of hr) (pv 5) (pv 1))) (pss_one (ps_if (pt_cmpR op_ne (pe_dpop1 (pv 1) (pv 5) ⟨rfl, rfl, rfl, rfl⟩) (pe_call G_bound_arity R_bound_arity (by rfl) g_bound_arity k_bound_arity b_bound_arity .nil pass0 (pa_cons (pv 0) pa_nil)) (nomark _)) pss_never pss_nil)) pss_nil) (pss_one (ps_ret (pv 1)))))))), ?_⟩
      obtain ⟨h, ps⟩ := f
      rw [Fm.data_mk] at dp
      have fit : h.Ok (ps.map Fm.data).length := by rw [List.length_map]; exact ok.hd_
      obtain ⟨a, xs, rfl, hT, hx⟩ := hd_inv dp
      refine ⟨_, rfl, a, _, _, _, rfl, rfl, hT, atI_nat (j := 0) rfl, rfl, _, rfl, ?_⟩
      by_cases kr : h.kd = .rel
      · refine cT (k := decide (V.str h.word = V.str "rel")) (by rw [kw_rel, decide_eq_true kr]) ?_
        cases h with
        | rel m as =>
          obtain ⟨v1, ws1, rfl, h1, hx⟩ := DpAll.cons_inv hx
          obtain ⟨v2, ws2, rfl, h2, _⟩ := DpAll.cons_inv hx
          rw [Dp.str_inv h1] at hT
          obtain ⟨t2, rfl, ht2⟩ := tS_inv h2
          intro p np
          have sp := same_upd (o := .dK []) np
          refine ⟨_, rfl, a, _, _, _, rfl, rfl, Same.sqt sp hT, atI_nat (j := 1) rfl, _, rfl, a, _, _, _, rfl, rfl, Same.sqt sp hT, atI_nat (j := 2) rfl, t2, _, rfl, .inr (Same.sqt sp ht2), upd_same, [enc (m, (as.map V.str).length)], rfl, (by show 1 ≤ 15; decide), ?_⟩
          refine q _ p [(m, as.length)] (fun b o eb => ?_) np ?_ ?_
          · rw [upd_ne (ne_of_none eb np)]
            exact sp _ _ eb
          · rw [upd_same, List.length_map]
            rfl
          · rw [Fm.syms_rel]
            exact ⟨by simp, fun _ => Iff.rfl⟩
        | _ => cases kr
      · refine cF (k := decide (V.str h.word = V.str "rel")) (by rw [kw_rel, decide_eq_false kr]) ?_
        -- found = {}
        intro d nd
        have s0 := same_upd (o := .dK []) nd
        have hd0 : (upd H d (.dK [])) d = some (.dK (([] : List (Str × Nat)).map enc)) := upd_same
        revert s0 hd0
        generalize upd H d (.dK []) = H0
        intro s0 hd0
        refine ⟨_, rfl, _, h, _, rfl, Dp.same s0 dp, fit.fits, fun H2 r s2 hr2 => ?_⟩
        obtain ⟨b, ys, rfl, hb2, hy⟩ := Dp.tup_inv hr2
        have s02 := s0.trans s2
        have ndb : ∀ {x : Addr} {o : HO}, H x = some o → x ≠ d := fun e z => by rw [z, nd] at e; cases e
        have n2 : NotSeq H2 d := ⟨_, s2 _ _ hd0⟩
        have same3 : ∀ {H3 : Hp}, Kp d H2 H3 → Same H H3 := fun k c o e => k c o (s02 c o e) (ndb e)
        have lenE : ∀ {l : List (Str × Nat)} {i : Nat}, DictOf l ((ps.take i).map Fm.syms).flatten → l.length ≤ 2000 := fun {l i} dd => by
          have e1 := dd.len
          have e2 : ((ps.take i).map Fm.syms).flatten.length ≤ (ps.map Fm.syms).flatten.length := by
            have z : (ps.map Fm.syms).flatten = ((ps.take i).map Fm.syms).flatten ++ ((ps.drop i).map Fm.syms).flatten := by rw [← List.flatten_append, ← List.map_append, List.take_append_drop]
            rw [z, List.length_append]
            omega
          have e3 := sum_lens ps fun p _ => syms_cnt p
          rw [Fm.cnt_mk] at hc
          omega
        refine ⟨b, rfl, ⟨_, hb2⟩, for_tup (K := K) (a := b) (xs := ys) (fun i σ H3 => ∃ (y2 y3 y4 : Option V) (l : List (Str × Nat)), σ = [some (.ref a), some (.ref d), y2, y3, y4, none] ∧ Kp d H2 H3 ∧ H3 d = some (.dK (List.map enc l)) ∧ DictOf l ((ps.take i).map Fm.syms).flatten)
          ⟨none, none, none, [], rfl, .refl _ _, s2 _ _ hd0, ⟨List.nodup_nil, fun p => by simp⟩⟩ (fun i σ H3 _ ⟨_, _, _, _, _, k3, _⟩ => k3.sqt' n2 hb2) ?_ ?_⟩
        · rintro i y σ H3 hi ⟨y2, y3, y4, l, rfl, k3, hd3, dl⟩
          obtain ⟨dd, hdd, dpy⟩ := DpAll.get' hy hi
          obtain ⟨g, hg, rfl⟩ := get_map hdd
          have mem := List.mem_of_getElem? hg
          have dep1 : g.dep < (Fm.mk h ps).dep := dep_part mem
          have cnt1 : g.cnt ≤ 2000 := by
            have := le_sumN (List.mem_map_of_mem (f := Fm.cnt) mem)
            rw [Fm.cnt_mk] at hc
            omega
          have tg := ty.part kr mem
          refine ⟨_, rfl, y, g, h.env Γ, rfl, Dp.kpD k3 n2 dpy, ok.part mem, tg, by omega, cnt1, fun H4 e l2 s4 ne he d2 => ?_⟩
          have ned : e ≠ d := fun z => by rw [z, hd3] at ne; cases ne
          have l2len : l2.length ≤ 2000 := by
            have := d2.len
            have := syms_cnt g
            omega
          refine ⟨e, .dK (l2.map enc), he, trivial, fun od => ?_⟩
          refine ⟨_, rfl, e, od, rfl, .inl ⟨_, upd_same, for_it walk_keys (fun j σ H5 => ∃ (y4 : Option V) (l' : List (Str × Nat)), σ = [some (.ref a), some (.ref d), some y, some (.ref e), y4, none] ∧ H5 e = some (.frz od (.dK (l2.map enc))) ∧ (∀ c o, H4 c = some o → c ≠ d → c ≠ e → H5 c = some o) ∧
            H5 d = some (.dK (l'.map enc)) ∧ DictOf l' (((ps.take i).map Fm.syms).flatten ++ l2.take j))
            ⟨y4, l, rfl, upd_same, fun c o ec nc ne2 => by rw [upd_ne ne2]; exact ec, by rw [upd_ne ned.symm]; exact s4 _ _ hd3, by rw [List.take_zero, List.append_nil]; exact dl⟩ (fun j σ H5 _ ⟨_, _, _, q1, _⟩ => q1) ?_ ?_⟩⟩
          · rintro j x σ H5 H6 hj ⟨y4, l', rfl, he5, k5, hd5, dl'⟩ ⟨rfl, kk, vv, hkv, rfl⟩
            obtain ⟨p, hp, ep⟩ := get_map hkv
            have ek : kk = Sum.inr p.1 := congrArg Prod.fst ep
            subst ek
            have pm := List.mem_of_getElem? hp
            have vp : valV (l2.map enc) (Sum.inr p.1) = some (.int (p.2 : Nat)) := val_of d2.nd pm
            have ep2 : (h.env Γ) p.1 = some p.2 := typed_sym g _ tg p ((d2.mem p).mp pm)
            have tk : l2.take (j + 1) = l2.take j ++ [p] := by rw [List.take_add_one, hp]; rfl
            have lens : l'.length < sizeLine := by
              have e1 := dl'.len
              rw [List.length_append] at e1
              have e2 : ((ps.take i).map Fm.syms).flatten.length ≤ 2000 := by
                have z : (ps.map Fm.syms).flatten = ((ps.take i).map Fm.syms).flatten ++ ((ps.drop i).map Fm.syms).flatten := by rw [← List.flatten_append, ← List.map_append, List.take_append_drop]
                have e3 := sum_lens ps fun p _ => syms_cnt p
                rw [Fm.cnt_mk] at hc
                rw [z, List.length_append] at e3
                omega
              have e4 := List.length_take_le j l2
              exact Nat.lt_of_le_of_lt (show l'.length ≤ 4000 by have := List.length_take_le' j l2; omega) (by decide)
            have get2 : ∀ H7 : Hp, H7 e = some (.frz od (.dK (l2.map enc))) → DGet H7 e (.str p.1) (some (.int (p.2 : Nat))) := fun H7 e7 => .inl ⟨_, Sum.inr p.1, .inr ⟨od, e7⟩, rfl, vp.symm⟩
            refine ⟨_, rfl, d, rfl, .inl ⟨_, Rd.of hd5⟩, _, rfl, _, rfl, _, rfl, e, _, rfl, get2 _ he5, _, Sum.inr p.1, hd5, rfl, by rw [List.length_map]; exact lens, fun v hv => ?_, fun hv => ?_⟩
            · obtain ⟨a2, ha2, rfl⟩ := val_enc hv
              have ea : (h.env Γ) p.1 = some a2 := by
                rcases List.mem_append.mp ((dl'.mem _).mp ha2) with z | z
                · obtain ⟨lz, hlz, hz⟩ := List.mem_flatten.mp z
                  obtain ⟨g2, hg2, rfl⟩ := List.mem_map.mp hlz
                  exact typed_sym g2 _ (ty.part kr (List.mem_of_mem_take hg2)) _ hz
                · exact typed_sym g _ tg _ ((d2.mem _).mp (List.mem_of_mem_take z))
              have e22 : a2 = p.2 := Option.some.inj (ea.symm.trans ep2)
              refine ⟨_, rfl, _, rfl, e, _, rfl, get2 _ he5, rfl, _, rfl, ?_⟩
              refine cF (k := !decide (V.int (a2 : Nat) = V.int (p.2 : Nat))) (by rw [e22, decide_eq_true rfl]; rfl) ?_
              refine ⟨_, l', rfl, he5, k5, hd5, ?_⟩
              rw [tk, ← List.append_assoc]
              rw [e22] at ha2
              exact dl'.keep ha2
            · have hn2 := val_enc_none.mp hv
              rw [putK_new _ hv]
              have e23 : (l'.map enc) ++ [((Sum.inr p.1 : Key), V.int (p.2 : Nat))] = (l' ++ [p]).map enc := by rw [List.map_append]; rfl
              rw [e23]
              have he6 : (upd H6 d (.dK ((l' ++ [p]).map enc))) e = some (.frz od (.dK (l2.map enc))) := by rw [upd_ne ned]; exact he5
              refine ⟨_, rfl, _, rfl, e, _, rfl, get2 _ he6, rfl, _, rfl, ?_⟩
              refine cF (k := !decide (V.int (p.2 : Nat) = V.int (p.2 : Nat))) (by rw [decide_eq_true rfl]; rfl) ?_
              refine ⟨_, l' ++ [p], rfl, he6, fun c o ec nc ne2 => by rw [upd_ne nc]; exact k5 c o ec nc ne2, upd_same, ?_⟩
              rw [tk, ← List.append_assoc]
              exact dl'.add hn2
          · rintro σ H5 ⟨y4, l', rfl, he5, k5, hd5, dl'⟩
            refine ⟨he5, _, _, _, l', rfl, fun c o ec nc => ?_, ?_, ?_⟩
            · have e3 := k3 c o ec nc
              have nce : c ≠ e := ne_of_none e3 ne
              rw [upd_ne nce]
              exact k5 c o (s4 _ _ e3) nc nce
            · rw [upd_ne ned.symm]
              exact hd5
            · have tl : l2.take (l2.map enc).length = l2 := List.take_of_length_le (by rw [List.length_map]; exact Nat.le_refl _)
              rw [tl] at dl'
              rw [take_flat hg]
              exact dl'.as fun p => by rw [List.mem_append, List.mem_append, d2.mem]
        · rintro σ H3 ⟨y2, y3, y4, l, rfl, k3, hd3, dl⟩
          have ey : ys.length = ps.length := by rw [DpAll.length hy, List.length_map]
          rw [List.take_of_length_le (show ps.length ≤ ys.length by omega)] at dl
          have s3 := same3 k3
          refine ⟨_, rfl, _, h, _, rfl, Dp.same s3 dp, fit.fits, fun H6 r1 s6 er => ?_⟩
          have er : r1 = match h.bound with | some (n, _) => V.str n | none => .non := er
          have hd6 := s6 _ _ hd3
          have s36 := s3.trans s6
          have fin : h.bname = none → Q (.ref d) H6 := fun hb => q H6 d l s36 nd hd6 (dl.as fun p => by
            rw [Fm.syms_mem kr, hb]
            constructor
            · intro z
              obtain ⟨lz, hlz, hz⟩ := List.mem_flatten.mp z
              obtain ⟨g2, hg2, rfl⟩ := List.mem_map.mp hlz
              exact ⟨(fun z => nomatch z), g2, hg2, hz⟩
            · rintro ⟨_, g2, hg2, hz⟩
              exact List.mem_flatten.mpr ⟨_, List.mem_map.mpr ⟨g2, hg2, rfl⟩, hz⟩)
          cases hbd : h.bound with
          | none =>
            rw [hbd] at er
            subst er
            refine ⟨_, rfl, _, rfl, .inr ⟨d, _, rfl, rfl, Rd.of hd6, _, rfl, iteF ?_⟩⟩
            exact ⟨_, rfl, fin (by unfold Hd.bname; rw [hbd]; rfl)⟩
          | some z =>
            obtain ⟨n0, k0⟩ := z
            rw [hbd] at er
            have hbn : h.bname = some n0 := by unfold Hd.bname; rw [hbd]; rfl
            subst er
            refine ⟨_, rfl, _, rfl, .inl ⟨d, _, rfl, DGet.k (k := Sum.inr n0) hd6, _, rfl, ?_⟩⟩
            cases hv : valV (l.map enc) (Sum.inr n0) with
            | none =>
              refine cF (k := (none : Option V).isSome) rfl ⟨_, rfl, q H6 d l s36 nd hd6 (dl.as fun p => ?_)⟩
              have nin := val_enc_none.mp hv
              rw [Fm.syms_mem kr, hbn]
              constructor
              · intro z
                have pl : p ∈ l := (dl.mem p).mpr z
                obtain ⟨lz, hlz, hz⟩ := List.mem_flatten.mp z
                obtain ⟨g2, hg2, rfl⟩ := List.mem_map.mp hlz
                exact ⟨fun z => nin (List.mem_map.mpr ⟨p, pl, (Option.some.inj z).symm⟩), g2, hg2, hz⟩
              · rintro ⟨_, g2, hg2, hz⟩
                exact List.mem_flatten.mpr ⟨_, List.mem_map.mpr ⟨g2, hg2, rfl⟩, hz⟩
            | some v =>
              obtain ⟨a2, ha2, rfl⟩ := val_enc hv
              have ea : a2 = k0 := by
                obtain ⟨lz, hlz, hz⟩ := List.mem_flatten.mp ((dl.mem _).mp ha2)
                obtain ⟨g2, hg2, rfl⟩ := List.mem_map.mp hlz
                have e1 := typed_sym g2 _ (ty.part kr hg2) _ hz
                unfold Hd.env at e1
                rw [hbd] at e1
                have e2 : some k0 = some a2 := by simpa using e1
                exact (Option.some.inj e2).symm
              refine cT (k := (some (V.int (a2 : Nat))).isSome) rfl ?_
              have s37 : Same H (upd H6 d (.dK (dropK (l.map enc) (Sum.inr n0)))) := fun c o e => by rw [upd_ne (ndb e)]; exact s36 c o e
              refine ⟨_, rfl, d, rfl, .inl ⟨_, Rd.of hd6⟩, _, rfl, _, Sum.inr n0, _, hd6, rfl, hv, ?_⟩
              refine ⟨_, rfl, _, h, _, n0, k0, rfl, Dp.same s37 dp, hbd, fun H7 s7 => ⟨rfl, _, rfl, ?_⟩⟩
              refine cF (k := !decide (V.int (a2 : Nat) = V.int (k0 : Nat))) (by rw [ea, decide_eq_true rfl]; rfl) ?_
              refine ⟨_, rfl, q H7 d (l.filter fun p => !decide (p.1 = n0)) (s37.trans s7) nd ?_ ⟨?_, fun p => ?_⟩⟩
              · rw [← drop_enc]
                exact s7 _ _ upd_same
              · exact List.Nodup.sublist ((List.filter_sublist (p := fun p => !decide (p.1 = n0)) (l := l)).map _) dl.nd
              · rw [List.mem_filter, dl.mem, Fm.syms_mem kr, hbn]
                constructor
                · rintro ⟨z, zn⟩
                  obtain ⟨lz, hlz, hz⟩ := List.mem_flatten.mp z
                  obtain ⟨g2, hg2, rfl⟩ := List.mem_map.mp hlz
                  refine ⟨fun z => ?_, g2, hg2, hz⟩
                  have e9 : n0 = p.1 := Option.some.inj z
                  rw [e9] at zn
                  simp at zn
                · rintro ⟨zn, g2, hg2, hz⟩
                  refine ⟨List.mem_flatten.mpr ⟨_, List.mem_map.mpr ⟨g2, hg2, rfl⟩, hz⟩, ?_⟩
                  have e9 : ¬ p.1 = n0 := fun z => zn (by rw [z])
                  simp [e9]
end
/-! ### check_formula of a right formula -/
structure Fm.Wf (f : Fm) : Prop where
  ok : f.Ok
  dep : f.dep ≤ 40
  cnt : f.cnt ≤ 2000
  pos : f.PosOk
  ty : ∃ Γ, f.Typed Γ
section
variable {P : Program} {w : World} {K : PySem.W.Frag} {mg : Str → Option Value} {base : Heap}
/-- a function of a right formula that changes nothing -/
def spWf (K : PySem.W.Frag) (R : Fm → V → Hp → Prop) : Sp := fun vs H Q _ => ∃ (v : V) (f : Fm), vs = [v] ∧ Dp K H v f.data ∧ f.Wf ∧ ∀ (H' : Hp) (r : V), Same H H' → R f r H' → Q r H'
abbrev spCheck (K : PySem.W.Frag) : Sp := spWf K fun _ r _ => r = .non
theorem sc_check_formula : FnScope ["formula"] ["formula"] (defScope (top 50)) := ⟨rfl, rfl, rfl, by decide +kernel, rfl, by decide +kernel, by decide +kernel⟩
theorem has_check_formula (D : Def K mg "check_formula" ["formula"] (top 50)) (k1 : ∃ t, mg "MOST_DEEP" = some (.int 40 t)) (k2 : ∃ t, mg "MOST_PARTS" = some (.int 2000 t))
    (C1 : ∀ n, Has P w K mg base (6 + n) "_check_shapes" ["value", "levels_left", "parts_left"] (spCS K n)) (C2 : ∀ n, Has P w K mg base (2 + n) "arities_in" ["formula"] (spAr K n)) (C3 : ∀ n, Has P w K mg base (3 + n) "_check_fixed_points" ["formula"] (spCF K n)) :
    Has P w K mg base 47 "check_formula" ["formula"] (spCheck K) := D.has fun f fd F => by
  obtain ⟨f1, fd1, G_check_shapes, g_check_shapes, k_check_shapes, b_check_shapes⟩ := C1 40
  obtain ⟨f2, fd2, G_arities_in, g_arities_in, k_arities_in, b_arities_in⟩ := C2 40
  obtain ⟨f3, fd3, G_check_fixed_points, g_check_fixed_points, k_check_fixed_points, b_check_fixed_points⟩ := C3 40
  obtain ⟨t1, c_MOST_DEEP⟩ := k1
  obtain ⟨t2, c_MOST_PARTS⟩ := k2
  refine F.ok sc_check_formula (fun vs H Q E h => ?_) (fun cdv A outer s H vs Q E hr h => ?_)
  · obtain ⟨v, f, rfl, _⟩ := h; rfl
  · obtain ⟨v, f, rfl, dp, wf, q⟩ := h
    have R_check_shapes : Room (6 + 40) _ := hr.mono (by decide)
    have R_arities_in : Room (2 + 40) _ := hr.mono (by decide)
    have R_check_fixed_points : Room (3 + 40) _ := hr.mono (by decide)
    refine ⟨_, PSs.nox (pss_cons (ps_expr (pe_call G_check_shapes R_check_shapes (by rfl) g_check_shapes k_check_shapes b_check_shapes .nil pass0 (pa_cons (pv 0) (pa_cons (pe_glob (v := .int 40) (by rfl) c_MOST_DEEP ⟨_, rfl⟩) (pa_cons (pe_glob (v := .int 2000) (by rfl) c_MOST_PARTS ⟨_, rfl⟩) pa_nil))))) (pss_cons (ps_expr (pe_call G_arities_in R_arities_in (by rfl) g_arities_in k_arities_in b_arities_in .nil pass0 (pa_cons (pv 0) pa_nil))) (pss_one (ps_expr (pe_call G_check_fixed_points R_check_fixed_points (by rfl) g_check_fixed_points k_check_fixed_points b_check_fixed_points .nil pass0 (pa_cons (pv 0) pa_nil)))))), ?_⟩
    obtain ⟨Γ, ty⟩ := wf.ty
    have h1 := wf.dep
    have h2 := wf.cnt
    refine ⟨_, rfl, v, 40, 2000, f, rfl, dp, wf.ok, h1, by omega, by omega, fun H1 s1 => ?_⟩
    refine ⟨_, rfl, v, f, Γ, rfl, Dp.same s1 dp, wf.ok, ty, h1, h2, fun H2 d l s2 _ _ _ => ?_⟩
    refine ⟨_, rfl, v, f, rfl, Dp.same (s1.trans s2) dp, wf.ok, wf.pos, h1, fun H3 s3 => ?_⟩
    exact q H3 .non ((s1.trans s2).trans s3) rfl
end
/-! ### what the law's formulas are -/
def sgOf (m : Nat) : Option Int := match m with
  | 0 => none
  | 1 => some 1
  | 2 => some (-1)
  | _ => some 0
def five : List Str := ["e", "p", "q", "r", "s"]
def Hd.vars (h : Hd) : List Str := h.own ++ h.args
def Hd.rn (h : Hd) : List Str := match h with
  | .rel n _ => [n]
  | _ => []
/-- all variables that occur, all names of relations that occur -/
def Fm.vars : Fm → List Str := Fm.fold fun h xs => h.vars ++ xs.flatten
def Fm.rns : Fm → List Str := Fm.fold fun h xs => h.rn ++ xs.flatten
theorem Fm.vars_mk (h : Hd) (ps : List Fm) : (Fm.mk h ps).vars = h.vars ++ (ps.map Fm.vars).flatten := Fm.fold_mk _ h ps
theorem Fm.rns_mk (h : Hd) (ps : List Fm) : (Fm.mk h ps).rns = h.rn ++ (ps.map Fm.rns).flatten := Fm.fold_mk _ h ps
structure Occ (pool : List Str) (f : Fm) : Prop where
  vs : ∀ x, x ∈ f.vars → x ∈ pool
  rs : ∀ x, x ∈ f.rns → x ∈ five
theorem Occ.part {pool : List Str} {h : Hd} {ps : List Fm} {p : Fm} (o : Occ pool (.mk h ps)) (hp : p ∈ ps) : Occ pool p :=
  ⟨fun x hx => o.vs x (by rw [Fm.vars_mk]; exact List.mem_append_right _ (List.mem_flatten.mpr ⟨_, List.mem_map.mpr ⟨p, hp, rfl⟩, hx⟩)),
   fun x hx => o.rs x (by rw [Fm.rns_mk]; exact List.mem_append_right _ (List.mem_flatten.mpr ⟨_, List.mem_map.mpr ⟨p, hp, rfl⟩, hx⟩))⟩
theorem Occ.mk' {pool : List Str} {h : Hd} {ps : List Fm} (a : ∀ x, x ∈ h.vars → x ∈ pool) (b : ∀ x, x ∈ h.rn → x ∈ five) (c : ∀ p, p ∈ ps → Occ pool p) : Occ pool (.mk h ps) := by
  refine ⟨fun x hx => ?_, fun x hx => ?_⟩
  · rw [Fm.vars_mk] at hx
    rcases List.mem_append.mp hx with hx | hx
    · exact a x hx
    · obtain ⟨l, hl, hx⟩ := List.mem_flatten.mp hx
      obtain ⟨p, hp, rfl⟩ := List.mem_map.mp hl
      exact (c p hp).vs x hx
  · rw [Fm.rns_mk] at hx
    rcases List.mem_append.mp hx with hx | hx
    · exact b x hx
    · obtain ⟨l, hl, hx⟩ := List.mem_flatten.mp hx
      obtain ⟨p, hp, rfl⟩ := List.mem_map.mp hl
      exact (c p hp).rs x hx
structure NOk (ns : List NE) (Γ : ArE) : Prop where
  nm : ∀ p, p ∈ ns → Nm p.1
  ar : ∀ p, p ∈ ns → p.2.1 ≤ 3
  md : ∀ p, p ∈ ns → p.2.2 ≤ 3
  fit : ∀ p, p ∈ ns → Γ p.1 = some p.2.1
  uni : ∀ p q, p ∈ ns → q ∈ ns → p.1 = q.1 → p = q
  fv : ∀ p, p ∈ ns → p.1 ∈ five
theorem mode_le {a b c e m : Nat} (ha : a ≤ 3) (hb : b ≤ 3) (hc : c ≤ 3) (he : e ≤ 3) : mode4 a b c e m ≤ 3 := by
  unfold mode4
  split <;> assumption
theorem NOk.map {ns : List NE} {Γ : ArE} (F : Nat → Nat) (hF : ∀ m, F m ≤ 3) (k : NOk ns Γ) : NOk (ns.map fun p => (p.1, p.2.1, F p.2.2)) Γ := by
  have inv : ∀ p, p ∈ (ns.map fun p : NE => (p.1, p.2.1, F p.2.2)) → ∃ q, q ∈ ns ∧ p = (q.1, q.2.1, F q.2.2) := fun p hp => by
    obtain ⟨q, hq, e⟩ := List.mem_map.mp hp
    exact ⟨q, hq, e.symm⟩
  refine ⟨fun p hp => ?_, fun p hp => ?_, fun p hp => ?_, fun p hp => ?_, fun p q hp hq e => ?_, fun p hp => ?_⟩
  · obtain ⟨q, hq, rfl⟩ := inv p hp; exact k.nm q hq
  · obtain ⟨q, hq, rfl⟩ := inv p hp; exact k.ar q hq
  · obtain ⟨q, hq, rfl⟩ := inv p hp; exact hF _
  · obtain ⟨q, hq, rfl⟩ := inv p hp; exact k.fit q hq
  · obtain ⟨p0, hp0, rfl⟩ := inv p hp
    obtain ⟨q0, hq0, rfl⟩ := inv q hq
    rw [k.uni p0 q0 hp0 hq0 e]
  · obtain ⟨q, hq, rfl⟩ := inv p hp; exact k.fv q hq
theorem NOk.turned {ns : List NE} {Γ : ArE} (k : NOk ns Γ) : NOk (turned ns) Γ := k.map _ fun m => mode_le (by decide) (by decide) (by decide) (by decide)
theorem NOk.barred {ns : List NE} {Γ : ArE} (k : NOk ns Γ) : NOk (barred ns) Γ := k.map _ fun m => mode_le (by decide) (by decide) (by decide) (by decide)
theorem mem_within {ns : List NE} {p q : NE} : q ∈ within ns p ↔ (q ∈ ns ∧ q.1 ≠ p.1) ∨ q = p := by
  unfold within
  rw [List.mem_append, List.mem_filter, List.mem_singleton]
  simp
theorem NOk.within {ns : List NE} {Γ Δ : ArE} {p : NE} (k : NOk ns Γ) (hn : Nm p.1) (h5 : p.1 ∈ five) (ha : p.2.1 ≤ 3) (hm : p.2.2 ≤ 3) (hΔ : ∀ x, Δ x = if x = p.1 then some p.2.1 else Γ x) : NOk (within ns p) Δ := by
  refine ⟨fun q hq => ?_, fun q hq => ?_, fun q hq => ?_, fun q hq => ?_, fun q r hq hr e => ?_, fun q hq => ?_⟩
  · rcases mem_within.mp hq with ⟨h, _⟩ | rfl
    · exact k.nm q h
    · exact hn
  · rcases mem_within.mp hq with ⟨h, _⟩ | rfl
    · exact k.ar q h
    · exact ha
  · rcases mem_within.mp hq with ⟨h, _⟩ | rfl
    · exact k.md q h
    · exact hm
  · rw [hΔ]
    rcases mem_within.mp hq with ⟨h, n⟩ | rfl
    · rw [if_neg n]; exact k.fit q h
    · rw [if_pos rfl]
  · rcases mem_within.mp hq with ⟨h, n⟩ | rfl
    · rcases mem_within.mp hr with ⟨h2, n2⟩ | rfl
      · exact k.uni q r h h2 e
      · exact absurd e n
    · rcases mem_within.mp hr with ⟨h2, n2⟩ | rfl
      · exact absurd e.symm n2
      · rfl
  · rcases mem_within.mp hq with ⟨h, _⟩ | rfl
    · exact k.fv q h
    · exact h5
structure Gen (pool : List Str) (ns : List NE) (Γ : ArE) (f : Fm) (n : Nat) : Prop where
  ok : f.Ok
  ty : f.Typed Γ
  po : f.PosOk
  md : ∀ p, p ∈ ns → ∀ s, sgOf p.2.2 = some s → f.pos p.1 s = true
  dep : f.dep ≤ n
  cnt : 2 * f.cnt + 1 ≤ 3 ^ n
  oc : Occ pool f
theorem Gen.mono {pool : List Str} {ns : List NE} {Γ : ArE} {f : Fm} {n m : Nat} (g : Gen pool ns Γ f n) (h : n ≤ m) : Gen pool ns Γ f m :=
  ⟨g.ok, g.ty, g.po, g.md, Nat.le_trans g.dep h, Nat.le_trans g.cnt (Nat.pow_le_pow_right (by decide) h), g.oc⟩
theorem Gen.rel {pool : List Str} {ns : List NE} {Γ : ArE} {p : NE} {as : List Str} (k : NOk ns Γ) (hp : p ∈ ns) (u : p.2.2 < 2) (len : as.length = p.2.1) (hs : Names as) (hv : ∀ x, x ∈ as → x ∈ pool) : Gen pool ns Γ (.mk (.rel p.1 as) []) 1 := by
  refine ⟨.mk ⟨k.nm p hp, ?_, hs, rfl⟩ (fun q hq => nomatch hq), .rel (by rw [len]; exact k.fit p hp), .mk (fun n us as e => by cases e) (fun q hq => nomatch hq), fun q hq s hs => ?_, by rw [Fm.dep_mk]; exact Nat.le_refl _, by rw [Fm.cnt_mk]; exact Nat.le_refl _, .mk' hv (fun x hx => by rw [List.mem_singleton.mp hx]; exact k.fv p hp) (fun q hq => nomatch hq)⟩
  · have := k.ar p hp
    omega
  · rw [Fm.pos_rel]
    by_cases e : p.1 = q.1
    · have e2 := k.uni p q hp hq e
      subst e2
      obtain ⟨a, b, m⟩ := p
      have u : m < 2 := u
      match m, u with
      | 0, _ => cases hs
      | 1, _ =>
        have : s = 1 := (Option.some.inj hs).symm
        rw [this]; rfl
    · rw [decide_eq_false e]
      exact Bool.or_true _
theorem Gen.cmp {pool : List Str} {ns : List NE} {Γ : ArE} {h : Hd} (c : (∃ x y, h = .eq x y ∧ (Nm x ∧ x ∈ pool) ∧ Nm y ∧ y ∈ pool) ∨ (∃ x y, h = .less x y ∧ (Nm x ∧ x ∈ pool) ∧ Nm y ∧ y ∈ pool)) : Gen pool ns Γ (.mk h []) 1 := by
  have nr : h.kd ≠ .rel := by rcases c with ⟨x, y, rfl, _⟩ | ⟨x, y, rfl, _⟩ <;> exact fun z => nomatch z
  refine ⟨.mk ?_ (fun q hq => nomatch hq), .other nr (fun q hq => nomatch hq), .mk (fun n us as e => ?_) (fun q hq => nomatch hq), fun q hq s hs => ?_, by rw [Fm.dep_mk]; exact Nat.le_refl _, by rw [Fm.cnt_mk]; exact Nat.le_refl _, .mk' (fun z hz => ?_) (fun z hz => ?_) (fun q hq => nomatch hq)⟩
  · rcases c with ⟨x, y, rfl, h1, h2⟩ | ⟨x, y, rfl, h1, h2⟩ <;> exact ⟨h1.1, h2.1, rfl⟩
  · rcases c with ⟨x, y, rfl, h1, h2⟩ | ⟨x, y, rfl, h1, h2⟩ <;> cases e
  · rw [Fm.pos_other nr]
    split <;> rfl
  · rcases c with ⟨x, y, rfl, h1, h2⟩ | ⟨x, y, rfl, h1, h2⟩
    · have hz : z ∈ [x, y] := hz
      rcases List.mem_cons.mp hz with rfl | hz
      · exact h1.2
      · rw [List.mem_singleton.mp hz]; exact h2.2
    · have hz : z ∈ [x, y] := hz
      rcases List.mem_cons.mp hz with rfl | hz
      · exact h1.2
      · rw [List.mem_singleton.mp hz]; exact h2.2
  · rcases c with ⟨x, y, rfl, h1, h2⟩ | ⟨x, y, rfl, h1, h2⟩ <;> exact nomatch hz
theorem rn_none {h : Hd} (nr : h.kd ≠ .rel) : h.rn = [] := by cases h <;> first | rfl | exact absurd rfl nr
theorem sum_gen {n : Nat} : ∀ (ps : List Fm), (∀ p, p ∈ ps → 2 * p.cnt + 1 ≤ 3 ^ n) → 2 * sumN (ps.map Fm.cnt) + ps.length ≤ ps.length * 3 ^ n
  | [], _ => Nat.zero_le _
  | p :: ps, h => by
    have a := h p (List.mem_cons_self ..)
    have b := sum_gen ps fun q hq => h q (List.mem_cons_of_mem _ hq)
    show 2 * (p.cnt + sumN (ps.map Fm.cnt)) + (ps.length + 1) ≤ (ps.length + 1) * 3 ^ n
    rw [Nat.add_mul, Nat.one_mul]
    omega
theorem maxN_le {n : Nat} : ∀ (xs : List Nat), (∀ x, x ∈ xs → x ≤ n) → maxN xs ≤ n
  | [], _ => Nat.zero_le _
  | x :: xs, h => Nat.max_le.mpr ⟨h x (List.mem_cons_self ..), maxN_le xs fun y hy => h y (List.mem_cons_of_mem _ hy)⟩
theorem Gen.step {pool : List Str} {ns ns' : List NE} {Γ : ArE} {h : Hd} {ps : List Fm} {n : Nat} (nr : h.kd ≠ .rel) (ok : h.Ok ps.length) (hv : ∀ x, x ∈ h.vars → x ∈ pool) (hg : ∀ g, g ∈ ps → Gen pool ns' (h.env Γ) g n) (len : ps.length ≤ 3)
    (hl : ∀ m us as, h = .lfp m us as → ∃ q, q ∈ ns' ∧ q.1 = m ∧ sgOf q.2.2 = some 1)
    (tr : ∀ p, p ∈ ns → h.bname ≠ some p.1 → ∀ s, sgOf p.2.2 = some s → ∃ q, q ∈ ns' ∧ q.1 = p.1 ∧ sgOf q.2.2 = some (h.sgn s)) : Gen pool ns Γ (.mk h ps) (n + 1) := by
  refine ⟨.mk ok fun p hp => (hg p hp).ok, .other nr fun p hp => (hg p hp).ty, .mk (fun m us as e p hp => ?_) fun p hp => (hg p hp).po, fun p hp s hs => ?_, ?_, ?_, .mk' hv (fun x hx => by rw [rn_none nr] at hx; cases hx) fun p hp => (hg p hp).oc⟩
  · obtain ⟨q, hq, e1, e2⟩ := hl m us as e
    rw [← e1]
    exact (hg p hp).md q hq 1 e2
  · rw [Fm.pos_other nr]
    by_cases hb : h.bname = some p.1
    · rw [if_pos hb]
    · rw [if_neg hb]
      refine List.all_eq_true.mpr fun g hgm => ?_
      obtain ⟨q, hq, e1, e2⟩ := tr p hp hb s hs
      rw [← e1]
      exact (hg g hgm).md q hq _ e2
  · rw [Fm.dep_mk]
    have := maxN_le (n := n) (ps.map Fm.dep) fun x hx => by
      obtain ⟨g, hgm, rfl⟩ := List.mem_map.mp hx
      exact (hg g hgm).dep
    omega
  · rw [Fm.cnt_mk]
    have h1 := sum_gen ps fun p hp => (hg p hp).cnt
    have h2 : 1 ≤ 3 ^ n := Nat.one_le_pow _ _ (by decide)
    rw [Nat.pow_succ]
    generalize sumN (ps.map Fm.cnt) = S at h1 ⊢
    generalize 3 ^ n = T at h1 h2 ⊢
    match hL : ps.length, len with
    | 0, _ => rw [hL] at h1; omega
    | 1, _ => rw [hL] at h1; omega
    | 2, _ => rw [hL] at h1; omega
    | 3, _ => rw [hL] at h1; omega
theorem sgOf_turn {m : Nat} {s : Int} (h : sgOf m = some s) : sgOf (mode4 0 2 1 3 m) = some (-s) := by
  match m with
  | 0 => cases h
  | 1 => rw [← Option.some.inj h]; rfl
  | 2 => rw [← Option.some.inj h]; rfl
  | _ + 3 => rw [← Option.some.inj h]; rfl
theorem sgOf_bar {m : Nat} {s : Int} (h : sgOf m = some s) : sgOf (mode4 0 3 3 3 m) = some 0 := by
  match m with
  | 0 => cases h
  | 1 => rfl
  | 2 => rfl
  | _ + 3 => rfl
theorem Gen.no {pool : List Str} {ns : List NE} {Γ : ArE} {g : Fm} {n : Nat} (hg : Gen pool (turned ns) Γ g n) : Gen pool ns Γ (.mk .no [g]) (n + 1) :=
  .step (ns' := SaysoV.turned ns) (fun z => nomatch z) rfl (fun x hx => nomatch hx) (fun f hf => by rw [List.mem_singleton.mp hf]; exact hg) (show 1 ≤ 3 by decide) (fun m us as e => by cases e) fun p hp _ s hs => ⟨(p.1, p.2.1, mode4 0 2 1 3 p.2.2), List.mem_map.mpr ⟨p, hp, rfl⟩, rfl, sgOf_turn hs⟩
theorem Gen.con {pool : List Str} {ns : List NE} {Γ : ArE} {h : Hd} {ps : List Fm} {n : Nat} (c : h = .con ∨ h = .dis) (hg : ∀ g, g ∈ ps → Gen pool ns Γ g n) (len : ps.length ≤ 3) : Gen pool ns Γ (.mk h ps) (n + 1) := by
  refine .step (ns' := ns) ?_ ?_ ?_ (fun f hf => ?_) len ?_ ?_
  · rcases c with rfl | rfl <;> exact fun z => nomatch z
  · rcases c with rfl | rfl <;> exact Nat.le_trans len (by decide)
  · rcases c with rfl | rfl <;> exact fun x hx => nomatch hx
  · rcases c with rfl | rfl <;> exact hg f hf
  · rcases c with rfl | rfl <;> exact fun m us as e => by cases e
  · rcases c with rfl | rfl <;> exact fun p hp _ s hs => ⟨p, hp, rfl, hs⟩
theorem Gen.quant {pool : List Str} {ns : List NE} {Γ : ArE} {h : Hd} {vs : List Str} {g : Fm} {n : Nat} (c : h = .ex vs ∨ h = .al vs) (o : OwnOk vs) (hv : ∀ x, x ∈ vs → x ∈ pool) (hg : Gen pool ns Γ g n) : Gen pool ns Γ (.mk h [g]) (n + 1) := by
  refine .step (ns' := ns) ?_ ?_ ?_ (fun f hf => ?_) (show 1 ≤ 3 by decide) ?_ ?_
  · rcases c with rfl | rfl <;> exact fun z => nomatch z
  · rcases c with rfl | rfl <;> exact ⟨o, rfl⟩
  · intro x hx
    refine hv x ?_
    rcases c with rfl | rfl
    · have hx : x ∈ vs ++ [] := hx
      rwa [List.append_nil] at hx
    · have hx : x ∈ vs ++ [] := hx
      rwa [List.append_nil] at hx
  · rw [List.mem_singleton.mp hf]
    rcases c with rfl | rfl <;> exact hg
  · rcases c with rfl | rfl <;> exact fun m us as e => by cases e
  · rcases c with rfl | rfl <;> exact fun p hp _ s hs => ⟨p, hp, rfl, hs⟩
theorem Gen.tc {pool : List Str} {ns : List NE} {Γ : ArE} {vs as : List Str} {g : Fm} {n : Nat} (l2 : vs.length = 2) (nv : Names vs) (nd : vs.Nodup) (la : as.length = 2) (na : Names as) (hv : ∀ x, x ∈ vs → x ∈ pool) (hw : ∀ x, x ∈ as → x ∈ pool) (hg : Gen pool ns Γ g n) : Gen pool ns Γ (.mk (.tc vs as) [g]) (n + 1) :=
  .step (ns' := ns) (fun z => nomatch z) ⟨.inl l2, nv, nd, by rw [l2, la], na, rfl⟩ (fun x hx => (List.mem_append.mp (show x ∈ vs ++ as from hx)).elim (hv x) (hw x)) (fun f hf => by rw [List.mem_singleton.mp hf]; exact hg) (show 1 ≤ 3 by decide) (fun m us as e => by cases e) fun p hp _ s hs => ⟨p, hp, rfl, hs⟩
theorem Gen.lfp {pool : List Str} {ns : List NE} {Γ : ArE} {name : Str} {vs as : List Str} {g : Fm} {n : Nat} (nn : Nm name) (o : OwnOk vs) (la : as.length = vs.length) (na : Names as) (hv : ∀ x, x ∈ vs → x ∈ pool) (hw : ∀ x, x ∈ as → x ∈ pool) (hg : Gen pool (SaysoV.within ns (name, vs.length, 1)) (Hd.env (.lfp name vs as) Γ) g n) : Gen pool ns Γ (.mk (.lfp name vs as) [g]) (n + 1) :=
  .step (fun z => nomatch z) ⟨nn, o, la, na, rfl⟩ (fun x hx => (List.mem_append.mp (show x ∈ vs ++ as from hx)).elim (hv x) (hw x)) (fun f hf => by rw [List.mem_singleton.mp hf]; exact hg) (show 1 ≤ 3 by decide)
    (fun m us as e => ⟨_, mem_within.mpr (.inr rfl), by injection e, rfl⟩)
    fun p hp hb s hs => ⟨p, mem_within.mpr (.inl ⟨hp, fun e => hb (congrArg some e.symm)⟩), rfl, hs⟩
theorem Gen.pfp {pool : List Str} {ns : List NE} {Γ : ArE} {name : Str} {vs as : List Str} {g : Fm} {n : Nat} (nn : Nm name) (o : OwnOk vs) (la : as.length = vs.length) (na : Names as) (hv : ∀ x, x ∈ vs → x ∈ pool) (hw : ∀ x, x ∈ as → x ∈ pool) (hg : Gen pool (SaysoV.within (SaysoV.barred ns) (name, vs.length, 0)) (Hd.env (.pfp name vs as) Γ) g n) : Gen pool ns Γ (.mk (.pfp name vs as) [g]) (n + 1) :=
  .step (fun z => nomatch z) ⟨nn, o, la, na, rfl⟩ (fun x hx => (List.mem_append.mp (show x ∈ vs ++ as from hx)).elim (hv x) (hw x)) (fun f hf => by rw [List.mem_singleton.mp hf]; exact hg) (show 1 ≤ 3 by decide)
    (fun m us as e => by cases e)
    fun p hp hb s hs => ⟨(p.1, p.2.1, mode4 0 3 3 3 p.2.2), mem_within.mpr (.inl ⟨List.mem_map.mpr ⟨p, hp, rfl⟩, fun e => hb (congrArg some e.symm)⟩), rfl, sgOf_bar hs⟩
theorem Gen.gs {pool : List Str} {ns : List NE} {Γ : ArE} {name : Str} {k : Nat} {g : Fm} {n : Nat} (nn : Nm name) (hk : k ≤ 3) (hg : Gen pool (SaysoV.within ns (name, k, 0)) (Hd.env (.gs name k) Γ) g n) : Gen pool ns Γ (.mk (.gs name k) [g]) (n + 1) :=
  .step (fun z => nomatch z) ⟨nn, hk, rfl⟩ (fun x hx => nomatch hx) (fun f hf => by rw [List.mem_singleton.mp hf]; exact hg) (show 1 ≤ 3 by decide)
    (fun m us as e => by cases e)
    fun p hp hb s hs => ⟨p, mem_within.mpr (.inl ⟨hp, fun e => hb (congrArg some e.symm)⟩), rfl, hs⟩
/-! ### the heap under draws -/
def Far (xs : List V) : Prop := ∀ (l : Addr) (n : Int), xs ≠ [.ref l, .int n]
theorem far_strs (as : List Str) : Far (as.map V.str) := fun l n e => by
  cases as with
  | nil => cases e
  | cons a r => injection e with h _; cases h
section
variable {K : PySem.W.Frag} {H H' : Hp} {d l : Addr}
theorem far_dp {xs : List V} {ts : List PyData} (h : DpAll K H xs ts) (g : good (.list ts) = true) : Far xs := fun l n e => by
  rw [e] at h
  rw [no_ints h] at g
  cases g
theorem SqL.kpA {a : Addr} {xs : List V} (h : SqL K H a xs) (far : Far xs) (r : DrA H d l) (k : Kp d H H') : SqL K H' a xs := by
  obtain ⟨n, ms, h1, _⟩ := r
  exact wo_sub.seq ((wo_kp k).seq (SqL.wo h1 (far l n) h))
end
theorem DpAll.inMem {K : PySem.W.Frag} {H : Hp} {xs : List V} {ts : List PyData} {v : V} (h : DpAll K H xs ts) (m : v ∈ xs) : ∃ t, t ∈ ts ∧ Dp K H v t := by
  obtain ⟨i, hi⟩ := List.mem_iff_getElem?.mp m
  obtain ⟨t, ht, e⟩ := DpAll.get' h hi
  exact ⟨t, List.mem_of_getElem? ht, e⟩
theorem atI_mod {xs : List V} (z : Int) (h : 0 < xs.length) : ∃ v, v ∈ xs ∧ atI xs (z % (xs.length : Int)) = some v := by
  have i0 : 0 ≤ z % (xs.length : Int) := Int.emod_nonneg _ (by omega)
  have i1 : z % (xs.length : Int) < (xs.length : Int) := Int.emod_lt_of_pos _ (by omega)
  obtain ⟨j, hj⟩ : ∃ j : Nat, z % (xs.length : Int) = (j : Int) := ⟨(z % (xs.length : Int)).toNat, by omega⟩
  rw [hj] at i1 ⊢
  have hl : j < xs.length := by omega
  exact ⟨xs[j], List.getElem_mem hl, atI_nat (List.getElem?_eq_getElem hl)⟩
theorem atI_str {as : List Str} (z : Int) (h : 0 < as.length) : ∃ x, x ∈ as ∧ atI (as.map V.str) (z % ((as.map V.str).length : Int)) = some (.str x) := by
  obtain ⟨v, hv, e⟩ := atI_mod (xs := as.map V.str) z (by rw [List.length_map]; exact h)
  obtain ⟨x, hx, rfl⟩ := List.mem_map.mp hv
  exact ⟨x, hx, e⟩
theorem swap2 {B G : Prop} (f : B → G) (b : B) : G := f b
structure Pool (pool : List Str) : Prop where
  nm : Names pool
  nd : pool.Nodup
  two : 2 ≤ pool.length
  few : pool.length ≤ 20
def spAtom (K : PySem.W.Frag) : Sp := fun vs H Q _ => ∃ (d l : Addr) (vp vn : V) (pool : List Str) (ns : List NE) (Γ : ArE), vs = [.ref d, vp, vn] ∧ DrA H d l ∧ Dp K H vp (.list (pool.map PyData.str)) ∧ Dp K H vn (nsD ns) ∧ NOk ns Γ ∧ Pool pool ∧ ns.length ≤ 100 ∧
  ∀ (H' : Hp) (r : V) (f : Fm), DrA H' d l → Kp d H H' → Dp K H' r f.data → Gen pool ns Γ f 1 → Q r H'
section
variable {P : Program} {w : World} {K : PySem.W.Frag} {mg : Str → Option Value} {base : Heap}
theorem sc_atom : FnScope ["draws", "pool", "names", "usable", "pick", "one", "word", "k"] ["draws", "pool", "names"] (defScope (top 66)) := ⟨rfl, rfl, rfl, by decide +kernel, rfl, by decide +kernel, by decide +kernel⟩
theorem has_atom (D : Def K mg "_law_atom" ["draws", "pool", "names"] (top 66)) (T : Txt mg) (C1 : Has P w K mg base 2 "_law_draw" ["draws"] spDraw) : Has P w K mg base 3 "_law_atom" ["draws", "pool", "names"] (spAtom K) := D.has fun f fd F => by
  obtain ⟨f1, fd1, G_law_draw, g_law_draw, k_law_draw, b_law_draw⟩ := C1
  refine F.ok sc_atom (fun vs H Q E h => ?_) (fun cdv A outer s H vs Q E hr h => ?_)
  · obtain ⟨d, l, vp, vn, pool, ns, Γ, rfl, _⟩ := h; rfl
  · obtain ⟨d, l, vp, vn, pool, ns, Γ, rfl, dr, dp, dn, ok, po, hl, q⟩ := h
    have R_law_draw : Room 2 _ := hr.mono (by decide)
    refine ⟨_, PSs.nox (pss_cons (ps_setLc (i := 3) (own := [("one", 5)]) rfl sc_atom.nd rfl rfl (sw_true rfl rfl rfl (by decide +kernel)) (pi_list (pv 2)) (blkOk_by (N := ["draws", "pool", "names", "usable", "pick", "one", "word", "k"]) (sc := defScope (top 66)) (by decide +kernel)) (fun _ _ _ _ _ => (pg_name (i := 5) sc_atom.nd rfl (Or.inl rfl))) (fun _ _ _ _ _ => (pts_one (pt_cmpR op_lt (pe_ix (ix_tupK (K := K) rfl) (pv 5) pe_int (fun _ _ => rfl)) pe_int (nomark _)))) (fun _ _ _ _ _ => (pv 5))) (pss_cons (ps_set (i := 4) sc_atom.nd rfl (Or.inl rfl) (pe_op op_mod (pe_call G_law_draw R_law_draw (by rfl) g_law_draw k_law_draw b_law_draw .nil pass0 (pa_cons (pv 0) pa_nil)) pe_int)) (pss_cons (ps_if (PW.pt (pw_and (pt_cmpR op_lt (pv 4) pe_int (nomark _)) (pw_and1 (pt_cmpR op_gt (pe_callB call_len_seq (by rfl) T.n_len PySem.boot_len (pa_cons (pv 3) pa_nil)) pe_int (nomark _))))) (pss_cons (ps_set (i := 5) sc_atom.nd rfl (Or.inl rfl) (pe_ix ix_list (pv 3) (pe_op op_mod (pe_call G_law_draw R_law_draw (by rfl) g_law_draw k_law_draw b_law_draw .nil pass0 (pa_cons (pv 0) pa_nil)) (pe_callB call_len_seq (by rfl) T.n_len PySem.boot_len (pa_cons (pv 3) pa_nil))) (fun _ _ => rfl))) (pss_one (ps_ret (pe_tup (pa_cons pe_str (pa_cons (pe_ix ix_tup (pv 5) pe_int (fun _ _ => rfl)) (pa_cons (pe_callTy call_tuple_of (by rfl) T.n_tuple (by decide +kernel) (pa_cons (pe_lc (own := [("k", 7)]) rfl sc_atom.nd (pi_range1 (by rfl) T.n_range (pa_cons (pe_ix ix_tup (pv 5) pe_int (fun _ _ => rfl)) pa_nil)) (blkOk_by (N := ["draws", "pool", "names", "usable", "pick", "one", "word", "k"]) (sc := defScope (top 66)) (by decide +kernel)) (fun _ _ _ _ _ => (pg_name (i := 7) sc_atom.nd rfl (Or.inl rfl))) (fun _ _ _ _ _ => pts_nil) (fun _ _ _ _ _ => (pe_ix (ix_listK (K := K) rfl) (pv 1) (pe_op op_mod (pe_call G_law_draw R_law_draw (by rfl) g_law_draw k_law_draw b_law_draw .nil pass0 (pa_cons (pv 0) pa_nil)) (pe_callB (call_len_seqK (K := K) rfl) (by rfl) T.n_len PySem.boot_len (pa_cons (pv 1) pa_nil))) (fun _ _ => rfl)))) pa_nil)) pa_nil))))))) pss_nil) (pss_cons (ps_set (i := 6) sc_atom.nd rfl (Or.inl rfl) (pe_ix ix_list (pe_lst (pa_cons pe_str (pa_cons pe_str pa_nil))) (pe_op op_mod (pe_call G_law_draw R_law_draw (by rfl) g_law_draw k_law_draw b_law_draw .nil pass0 (pa_cons (pv 0) pa_nil)) pe_int) (fun _ _ => rfl))) (pss_one (ps_ret (pe_tup (pa_cons (pv 6) (pa_cons (pe_ix ix_list (pv 1) (pe_op op_mod (pe_call G_law_draw R_law_draw (by rfl) g_law_draw k_law_draw b_law_draw .nil pass0 (pa_cons (pv 0) pa_nil)) (pe_callB call_len_seq (by rfl) T.n_len PySem.boot_len (pa_cons (pv 1) pa_nil))) (fun _ _ => rfl)) (pa_cons (pe_ix ix_list (pv 1) (pe_op op_mod (pe_call G_law_draw R_law_draw (by rfl) g_law_draw k_law_draw b_law_draw .nil pass0 (pa_cons (pv 0) pa_nil)) (pe_callB call_len_seq (by rfl) T.n_len PySem.boot_len (pa_cons (pv 1) pa_nil))) (fun _ _ => rfl)) pa_nil)))))))))), ?_⟩
    obtain ⟨b, rfl, hb⟩ := strsL dp
    obtain ⟨a, xs, rfl, ha, hx⟩ := Dp.lst_inv dn
    have p0 : 0 < pool.length := by have := po.two; omega
    -- usable
    refine ⟨_, rfl, a, rfl, ⟨_, ha⟩, fun L nL => ?_⟩
    refine lc_it (walk_list (K := K) (a := a) (xs := xs)) (fun i H2 => ∃ acc, H2 L = some (.lst acc) ∧ DpAll K H acc (((ns.take i).filter fun p : NE => decide (p.2.2 < 2)).map nD) ∧ Same H H2) ⟨[], upd_same, .nil, same_upd nL⟩ (fun i H2 _ ⟨_, _, _, s2⟩ => s2.seq ha) ?_ ?_
    · rintro i y H2 H3 hi ⟨acc, hL, hacc, s2⟩ ⟨rfl, hy⟩
      obtain ⟨dd, hd, dpy⟩ := DpAll.get' hx hy
      obtain ⟨p, hp, rfl⟩ := get_map hd
      obtain ⟨t, rfl, ht⟩ := nD_inv dpy
      refine ⟨rfl, _, rfl, t, _, _, _, rfl, rfl, Same.sqt s2 ht, atI_nat (j := 2) rfl, _, _, rfl, rfl, _, rfl, ?_⟩
      have ef := filter_snoc (p := fun p : NE => decide (p.2.2 < 2)) hp
      by_cases e : p.2.2 < 2
      · refine cT (k := decide ((p.2.2 : Int) < 2)) (decide_eq_true (by omega)) ⟨_, rfl, _, hL, ?_, ?_⟩
        · have e1 := DpAll.length hacc
          rw [List.length_map] at e1
          have e2 := List.length_filter_le (fun p : NE => decide (p.2.2 < 2)) (ns.take i)
          have e3 := List.length_take_le' i ns
          exact small1000 (by omega)
        · refine ⟨_, upd_same, ?_, fun b o eb => by rw [upd_ne (ne_of_none eb nL)]; exact s2 _ _ eb⟩
          rw [show (if decide (p.2.2 < 2) = true then [p] else []) = [p] by simp [e]] at ef
          rw [ef, List.map_append]
          exact DpAll.snoc hacc (nD_of ht)
      · refine cF (k := decide ((p.2.2 : Int) < 2)) (decide_eq_false (by omega)) ⟨acc, hL, ?_, s2⟩
        rw [show (if decide (p.2.2 < 2) = true then [p] else []) = [] by simp [e], List.append_nil] at ef
        rw [ef]
        exact hacc
    · rintro H2 ⟨acc, hL, hacc, s2⟩
      have el : xs.length = ns.length := by rw [DpAll.length hx, List.length_map]
      rw [List.take_of_length_le (show ns.length ≤ xs.length by omega)] at hacc
      have dr2 := dr.same s2
      have nd : L ≠ d ∧ L ≠ l := dr.ne nL
      refine ⟨_, rfl, d, l, rfl, dr2, fun z1 H3 _ _ dr3 k3 => ?_⟩
      refine ⟨_, _, rfl, rfl, (by show (0 : Int) < 5; decide), ?_⟩
      have hL3 := k3 _ _ hL nd.1
      have k03 : Kp d H H3 := (Kp.of s2).trans k3
      have Z : DpAll K H3 acc ((ns.filter fun p : NE => decide (p.2.2 < 2)).map nD) := DpAll.kl (.dr k03 dr) hacc (ns_noL _)
      have hb3 := SqL.kpA hb (far_strs _) dr k03
      by_cases hc : z1 % 5 < 3 ∧ 0 < acc.length
      · refine ⟨_, rfl, _, _, rfl, rfl, _, rfl, ite2 (fun e => ?_) (fun e => absurd (decide_eq_true hc.1) e)⟩
        refine ⟨_, rfl, L, _, rfl, .inl (SqL.of hL3), _, _, rfl, rfl, _, rfl, ?_⟩
        refine cT (k := decide ((0 : Int) < (acc.length : Nat))) (decide_eq_true (by omega)) ?_
        refine ⟨_, rfl, _, rfl, d, l, rfl, dr3, fun z2 H4 _ _ dr4 k4 => ?_⟩
        have hL4 := k4 _ _ hL3 nd.1
        obtain ⟨v, hv, hat⟩ := atI_mod z2 hc.2
        obtain ⟨t1, ht1, dv⟩ := DpAll.inMem Z hv
        obtain ⟨p, hp, rfl⟩ := List.mem_map.mp ht1
        obtain ⟨hp1, hp2⟩ := List.mem_filter.mp hp
        obtain ⟨t, rfl, ht⟩ := nD_inv (Dp.kl (.dr k4 dr3) dv (noL_nD p))
        refine ⟨_, rfl, L, _, rfl, .inl (SqL.of hL4), _, _, rfl, rfl, (by omega), L, _, _, _, rfl, rfl, SqL.of hL4, hat, ?_⟩
        have a3 := ok.ar p hp1
        refine ⟨_, rfl, t, _, _, _, rfl, rfl, ht, atI_nat (j := 0) rfl, ?_⟩
        refine ⟨_, rfl, t, _, _, _, rfl, rfl, ht, atI_nat (j := 1) rfl, p.2.1, rfl, by omega, by omega, fun M nM => ?_⟩
        have k04 := k03.trans k4
        have hb4 := SqL.kpA hb (far_strs _) dr k04
        obtain ⟨nMd, nMl⟩ := dr4.ne nM
        refine lc_it walk_range (fun i H5 => ∃ as : List Str, DrA H5 d l ∧ Kp d H4 H5 ∧ H5 M = some (.lst (as.map V.str)) ∧ as.length = i ∧ ∀ x, x ∈ as → x ∈ pool) ⟨[], dr4.same (same_upd nM), .of (same_upd nM), upd_same, rfl, fun x hx => nomatch hx⟩ (fun _ _ _ _ => trivial) ?_ ?_
        · rintro i y H5 H6 hi ⟨as, dr5, k5, hM, len, hs⟩ ⟨rfl, rfl⟩
          refine ⟨rfl, _, rfl, _, rfl, d, l, rfl, dr5, fun z6 H7 _ _ dr7 k7 => ?_⟩
          have hb7 := SqL.kpA hb4 (far_strs _) dr4 (k5.trans k7)
          obtain ⟨x, hx, hax⟩ := atI_str (as := pool) z6 p0
          have hM7 := k7 _ _ hM nMd
          refine ⟨_, rfl, b, _, rfl, .inl hb7, _, _, rfl, rfl, (by rw [List.length_map]; omega), b, _, _, _, rfl, rfl, hb7, hax, _, hM7, ?_, as ++ [x], dr7.kp Kp.upd ⟨nMd, nMl⟩, kp_own (k5.trans k7) nM, ?_, ?_, ?_⟩
          · rw [List.length_map]
            exact small1000 (by omega)
          · rw [upd_same, List.map_append]; rfl
          · rw [List.length_append, len]; rfl
          · intro y hy
            rcases List.mem_append.mp hy with hy | hy
            · exact hs y hy
            · rw [List.mem_singleton.mp hy]; exact hx
        · rintro H5 ⟨as, dr5, k5, hM, len, hs⟩
          refine ⟨M, _, rfl, .inl ⟨SqL.of hM, fun u nu => ?_⟩⟩
          refine ⟨(by show 3 ≤ sizeLine; decide), fun r nr => ?_⟩
          have s7 := same_upd (o := .tup (as.map V.str)) nu
          have s8 := same_upd (o := .tup [.str "rel", .str p.1, .ref u]) nr
          refine q _ _ (.mk (.rel p.1 as) []) (dr5.same (s7.trans s8)) ((k04.trans k5).trans (.of (s7.trans s8))) ?_ (.rel ok hp1 (by simpa using hp2) len (fun x hx => po.nm x (hs x hx)) hs)
          rw [Fm.data_mk]
          exact .tup (.inl (.inl upd_same)) (.cons (.str _) (.cons (.str _) (.cons (tS_of (Same.sqt s8 (.inl (.inl upd_same)))) .nil)))
      · refine swap2 (fun rest => ⟨_, rfl, _, _, rfl, rfl, _, rfl, ite2 (fun e => ⟨_, rfl, L, _, rfl, .inl (SqL.of hL3), _, _, rfl, rfl, _, rfl, cF (k := decide ((0 : Int) < (acc.length : Nat))) (decide_eq_false fun z => hc ⟨of_decide_eq_true e, by omega⟩) rest⟩) (fun e => iteF rest)⟩) ?_
        refine ⟨(by show 2 ≤ sizeLine; decide), fun c nc => ?_⟩
        have s3 := same_upd (o := .lst ((["eq", "less"] : List Str).map V.str)) nc
        have dr3' := dr3.same s3
        have nc3 := dr3.ne nc
        refine ⟨_, rfl, d, l, rfl, dr3', fun z2 H4 _ _ dr4 k4 => ?_⟩
        obtain ⟨wd, hw, hat⟩ := atI_str (as := ["eq", "less"]) z2 (by decide)
        have hc4 := k4 _ _ upd_same nc3.1
        refine ⟨_, _, rfl, rfl, (by show (0 : Int) < 2; decide), c, _, _, _, rfl, rfl, SqL.of hc4, hat, ?_⟩
        have k04 := (k03.trans (.of s3)).trans k4
        have hb4 := SqL.kpA hb (far_strs _) dr k04
        refine ⟨_, rfl, _, rfl, _, rfl, d, l, rfl, dr4, fun z5 H5 _ _ dr5 k5 => ?_⟩
        obtain ⟨x, hx, hax⟩ := atI_str (as := pool) z5 p0
        have hb5 := SqL.kpA hb4 (far_strs _) dr4 k5
        refine ⟨_, rfl, b, _, rfl, .inl hb5, _, _, rfl, rfl, (by rw [List.length_map]; omega), b, _, _, _, rfl, rfl, hb5, hax, ?_⟩
        refine ⟨_, rfl, _, rfl, d, l, rfl, dr5, fun z6 H6 _ _ dr6 k6 => ?_⟩
        obtain ⟨y, hy, hay⟩ := atI_str (as := pool) z6 p0
        have hb6 := SqL.kpA hb5 (far_strs _) dr5 k6
        refine ⟨_, rfl, b, _, rfl, .inl hb6, _, _, rfl, rfl, (by rw [List.length_map]; omega), b, _, _, _, rfl, rfl, hb6, hay, ?_⟩
        refine ⟨(by show 3 ≤ sizeLine; decide), fun r nr => ?_⟩
        have s8 := same_upd (o := .tup [.str wd, .str x, .str y]) nr
        have k06 := (k04.trans k5).trans k6
        rcases List.mem_cons.mp hw with rfl | hw
        · refine q _ _ (.mk (.eq x y) []) (dr6.same s8) (k06.trans (.of s8)) ?_ (.cmp (.inl ⟨x, y, rfl, ⟨po.nm x hx, hx⟩, po.nm y hy, hy⟩))
          rw [Fm.data_mk]
          exact .tup (.inl (.inl upd_same)) (.cons (.str _) (.cons (.str _) (.cons (.str _) .nil)))
        · rw [List.mem_singleton.mp hw] at s8 ⊢
          refine q _ _ (.mk (.less x y) []) (dr6.same s8) (k06.trans (.of s8)) ?_ (.cmp (.inr ⟨x, y, rfl, ⟨po.nm x hx, hx⟩, po.nm y hy, hy⟩))
          rw [Fm.data_mk]
          exact .tup (.inl (.inl upd_same)) (.cons (.str _) (.cons (.str _) (.cons (.str _) .nil)))
end
/-! ### the law's formulas are made -/
def kindsL : List Str := ["some", "all", "lfp", "pfp", "tc", "guess"]
/-- the list of kinds: some of the six -/
def Dk (K : PySem.W.Frag) (H : Hp) (v : V) : Prop := ∃ kl : List Str, 0 < kl.length ∧ (∀ x, x ∈ kl → x ∈ kindsL) ∧ Dp K H v (.list (kl.map PyData.str))
theorem Dk.kpA {K : PySem.W.Frag} {H H' : Hp} {d l : Addr} {v : V} (h : Dk K H v) (r : DrA H d l) (k : Kp d H H') : Dk K H' v := by
  obtain ⟨kl, a, b, c⟩ := h
  exact ⟨kl, a, b, Dp.kpA c r (good_strl _) k⟩
structure GA (K : PySem.W.Frag) (H : Hp) (d l : Addr) (vp vn vk : V) (pool : List Str) (ns : List NE) (Γ : ArE) (n : Nat) : Prop where
  dr : DrA H d l
  dp : Dp K H vp (.list (pool.map PyData.str))
  dn : Dp K H vn (nsD ns)
  dk : Dk K H vk
  ok : NOk ns Γ
  po : Pool pool
  few : ns.length + n ≤ 60
theorem GA.kp {K : PySem.W.Frag} {H H' : Hp} {d l : Addr} {vp vn vk : V} {pool : List Str} {ns : List NE} {Γ : ArE} {n : Nat} (g : GA K H d l vp vn vk pool ns Γ n) (k : Kp d H H') (dr : DrA H' d l) : GA K H' d l vp vn vk pool ns Γ n :=
  ⟨dr, Dp.kpA g.dp g.dr (good_strl _) k, Dp.kpA g.dn g.dr (good_nsD _) k, g.dk.kpA g.dr k, g.ok, g.po, g.few⟩
theorem GA.same {K : PySem.W.Frag} {H H' : Hp} {d l : Addr} {vp vn vk : V} {pool : List Str} {ns : List NE} {Γ : ArE} {n : Nat} (g : GA K H d l vp vn vk pool ns Γ n) (k : Same H H') : GA K H' d l vp vn vk pool ns Γ n := g.kp (.of k) (g.dr.same k)
theorem strsR {K : PySem.W.Frag} {H : Hp} {a : Addr} {as : List Str} (h : Dp K H (.ref a) (.list (as.map PyData.str))) : SqL K H a (as.map V.str) := by
  obtain ⟨b, e, h⟩ := strsL h
  cases e
  exact h
def spForm (K : PySem.W.Frag) (n : Nat) : Sp := fun vs H Q _ => ∃ (d l : Addr) (k : Int) (vp vn vk : V) (pool : List Str) (ns : List NE) (Γ : ArE) (m : Nat), vs = [.ref d, .int k, vp, vn, vk] ∧ k = (m : Nat) ∧ (1 ≤ m ∧ m ≤ n) ∧ GA K H d l vp vn vk pool ns Γ m ∧
  ∀ (H' : Hp) (r : V) (f : Fm), DrA H' d l → Kp d H H' → Dp K H' r f.data → Gen pool ns Γ f m → Q r H'
def spBound (K : PySem.W.Frag) (n : Nat) : Sp := fun vs H Q _ => ∃ (d l : Addr) (k : Int) (vp vn vk : V) (pool : List Str) (ns : List NE) (Γ : ArE) (m : Nat), vs = [.ref d, .int k, vp, vn, vk] ∧ k = (m : Nat) ∧ (2 ≤ m ∧ m ≤ n) ∧ GA K H d l vp vn vk pool ns Γ m ∧
  ∀ (H' : Hp) (r : V) (f : Fm), DrA H' d l → Kp d H H' → Dp K H' r f.data → Gen pool ns Γ f m → Q r H'
theorem within_len (ns : List NE) (p : NE) : (within ns p).length ≤ ns.length + 1 := by
  unfold within
  rw [List.length_append]
  have := List.length_filter_le (fun q : NE => !decide (q.1 = p.1)) ns
  show _ + 1 ≤ _
  omega
theorem barred_len (ns : List NE) : (barred ns).length = ns.length := List.length_map ..
theorem turned_len (ns : List NE) : (turned ns).length = ns.length := List.length_map ..
def nmB (z : Str) : Bool := decide (1 ≤ z.length) && decide (z.length ≤ 12) && (z.cps.toList[0]?).all (fun c => decide (c ∈ lets.cps.toList)) && !inV (.str z) resv && z.cps.toList.all (fun c => decide (c ∈ both.cps.toList))
theorem nm_of {z : Str} (h : nmB z = true) : Nm z := by
  unfold nmB at h
  simp only [Bool.and_eq_true, decide_eq_true_eq, Bool.not_eq_true', List.all_eq_true] at h
  obtain ⟨⟨⟨⟨h1, h2⟩, h3⟩, h4⟩, h5⟩ := h
  refine ⟨h1, h2, fun c hc => ?_, h4, h5⟩
  rw [hc] at h3
  simpa using h3
section
variable {P : Program} {w : World} {K : PySem.W.Frag} {mg : Str → Option Value} {base : Heap}
theorem sc_bound : FnScope ["draws", "deep", "pool", "names", "kinds", "pick", "args", "given", "name", "inner_v", "arity", "x"] ["draws", "deep", "pool", "names", "kinds"] (defScope (top 70)) := ⟨rfl, rfl, rfl, by decide +kernel, rfl, by decide +kernel, by decide +kernel⟩
theorem has_bound {n : Nat} (D : Def K mg "_law_bound" ["draws", "deep", "pool", "names", "kinds"] (top 70)) (T : Txt mg) (C1 : Has P w K mg base 2 "_law_draw" ["draws"] spDraw) (C2 : Has P w K mg base 3 "_law_some_of" ["draws", "pool", "many"] (spSomeOf K))
    (C3 : Has P w K mg base 1 "_law_within" ["names", "name", "arity", "mode"] (spWithin K)) (C4 : Has P w K mg base 1 "_law_barred" ["names"] (spMode K barred)) (C5 : Has P w K mg base (4 + 2 * n) "_law_formula" ["draws", "deep", "pool", "names", "kinds"] (spForm K n)) :
    Has P w K mg base (4 + 2 * n + 1) "_law_bound" ["draws", "deep", "pool", "names", "kinds"] (spBound K (n + 1)) := D.has fun f fd F => by
  obtain ⟨f1, fd1, G_law_draw, g_law_draw, k_law_draw, b_law_draw⟩ := C1
  obtain ⟨f2, fd2, G_law_some_of, g_law_some_of, k_law_some_of, b_law_some_of⟩ := C2
  obtain ⟨f3, fd3, G_law_within, g_law_within, k_law_within, b_law_within⟩ := C3
  obtain ⟨f4, fd4, G_law_barred, g_law_barred, k_law_barred, b_law_barred⟩ := C4
  obtain ⟨f5, fd5, G_law_formula, g_law_formula, k_law_formula, b_law_formula⟩ := C5
  refine F.ok sc_bound (fun vs H Q E h => ?_) (fun cdv A outer s H vs Q E hr h => ?_)
  · obtain ⟨d, l, k, vp, vn, vk, pool, ns, Γ, m, rfl, _⟩ := h; rfl
  · obtain ⟨d, l, k, vp, vn, vk, pool, ns, Γ, m0, rfl, hk, h2, ga, q⟩ := h
    obtain ⟨m, rfl⟩ : ∃ m, m0 = m + 1 := ⟨m0 - 1, by omega⟩
    have R_law_draw : Room 2 _ := hr.mono (Nat.le_trans (by decide) (Nat.le_add_right 4 (2 * n)))
    have R_law_some_of : Room 3 _ := hr.mono (Nat.le_trans (by decide) (Nat.le_add_right 4 (2 * n)))
    have R_law_within : Room 1 _ := hr.mono (Nat.le_trans (by decide) (Nat.le_add_right 4 (2 * n)))
    have R_law_barred : Room 1 _ := hr.mono (Nat.le_trans (by decide) (Nat.le_add_right 4 (2 * n)))
    have R_law_formula : Room (4 + 2 * n) _ := hr
    refine ⟨_, PSs.nox (pss_cons (ps_set (i := 5) sc_bound.nd rfl (Or.inl rfl) (pe_ix ix_list (pv 4) (pe_op op_mod (pe_call G_law_draw R_law_draw (by rfl) g_law_draw k_law_draw b_law_draw .nil pass0 (pa_cons (pv 0) pa_nil)) (pe_callB call_len_seq (by rfl) T.n_len PySem.boot_len (pa_cons (pv 4) pa_nil))) (fun _ _ => rfl))) (pss_cons (ps_if (PW.pt (pw_and (pt_cmpR op_eq (pe_callB call_len_seq (by rfl) T.n_len PySem.boot_len (pa_cons (pv 2) pa_nil)) pe_int (nomark _)) (pw_and1 (pt_cmpR op_eq (pv 5) pe_str (nomark _))))) pss_never pss_nil) (pss_cons (ps_set (i := 6) sc_bound.nd rfl (Or.inl rfl) (pe_call G_law_some_of R_law_some_of (by rfl) g_law_some_of k_law_some_of b_law_some_of .nil pass0 (pa_cons (pv 0) (pa_cons (pv 2) (pa_cons (pe_callB (call_min2 rfl) (by rfl) T.n_min (by decide +kernel) (pa_cons (pe_callB call_len_seq (by rfl) T.n_len PySem.boot_len (pa_cons (pv 2) pa_nil)) (pa_cons (pe_ix ix_list (pe_lst (pa_cons pe_int (pa_cons pe_int (pa_cons pe_int (pa_cons pe_int (pa_cons pe_int (pa_cons pe_int pa_nil))))))) (pe_op op_mod (pe_call G_law_draw R_law_draw (by rfl) g_law_draw k_law_draw b_law_draw .nil pass0 (pa_cons (pv 0) pa_nil)) pe_int) (fun _ _ => rfl)) pa_nil))) pa_nil))))) (pss_cons (ps_set (i := 7) sc_bound.nd rfl (Or.inl rfl) (pe_callTy call_tuple_of (by rfl) T.n_tuple (by decide +kernel) (pa_cons (pe_lc (own := [("x", 11)]) rfl sc_bound.nd (pi_list (pv 6)) (blkOk_by (N := ["draws", "deep", "pool", "names", "kinds", "pick", "args", "given", "name", "inner_v", "arity", "x"]) (sc := defScope (top 70)) (by decide +kernel)) (fun _ _ _ _ _ => (pg_name (i := 11) sc_bound.nd rfl (Or.inl rfl))) (fun _ _ _ _ _ => pts_nil) (fun _ _ _ _ _ => (pe_ix (ix_listK (K := K) rfl) (pv 2) (pe_op op_mod (pe_call G_law_draw R_law_draw (by rfl) g_law_draw k_law_draw b_law_draw .nil pass0 (pa_cons (pv 0) pa_nil)) (pe_callB (call_len_seqK (K := K) rfl) (by rfl) T.n_len PySem.boot_len (pa_cons (pv 2) pa_nil))) (fun _ _ => rfl)))) pa_nil))) (pss_cons (ps_set (i := 8) sc_bound.nd rfl (Or.inl rfl) (pe_ix ix_list (pe_lst (pa_cons pe_str (pa_cons pe_str (pa_cons pe_str pa_nil)))) (pe_op op_mod (pe_call G_law_draw R_law_draw (by rfl) g_law_draw k_law_draw b_law_draw .nil pass0 (pa_cons (pv 0) pa_nil)) pe_int) (fun _ _ => rfl))) (pss_cons (ps_if (PW.pt (pw_or (pt_cmpR op_eq (pv 5) pe_str (nomark _)) (pw_or1 (pt_cmpR op_eq (pv 5) pe_str (nomark _))))) (pss_one (ps_ret (pe_tup (pa_cons (pv 5) (pa_cons (pe_callTy call_tuple_of (by rfl) T.n_tuple (by decide +kernel) (pa_cons (pv 6) pa_nil)) (pa_cons (pe_call G_law_formula R_law_formula (by rfl) g_law_formula k_law_formula b_law_formula .nil pass0 (pa_cons (pv 0) (pa_cons (pe_op op_sub (pv 1) pe_int) (pa_cons (pv 2) (pa_cons (pv 3) (pa_cons (pv 4) pa_nil)))))) pa_nil)))))) pss_nil) (pss_cons (ps_if (pt_cmpR op_eq (pv 5) pe_str (nomark _)) (pss_cons (ps_set (i := 9) sc_bound.nd rfl (Or.inl rfl) (pe_call G_law_within R_law_within (by rfl) g_law_within k_law_within b_law_within .nil pass0 (pa_cons (pv 3) (pa_cons (pv 8) (pa_cons (pe_callB call_len_seq (by rfl) T.n_len PySem.boot_len (pa_cons (pv 6) pa_nil)) (pa_cons pe_int pa_nil)))))) (pss_one (ps_ret (pe_tup (pa_cons pe_str (pa_cons (pv 8) (pa_cons (pe_callTy call_tuple_of (by rfl) T.n_tuple (by decide +kernel) (pa_cons (pv 6) pa_nil)) (pa_cons (pe_call G_law_formula R_law_formula (by rfl) g_law_formula k_law_formula b_law_formula .nil pass0 (pa_cons (pv 0) (pa_cons (pe_op op_sub (pv 1) pe_int) (pa_cons (pv 2) (pa_cons (pv 9) (pa_cons (pv 4) pa_nil)))))) (pa_cons (pv 7) pa_nil))))))))) pss_nil) (pss_cons (ps_if (pt_cmpR op_eq (pv 5) pe_str (nomark _)) (pss_cons (ps_set (i := 9) sc_bound.nd rfl (Or.inl rfl) (pe_call G_law_within R_law_within (by rfl) g_law_within k_law_within b_law_within .nil pass0 (pa_cons (pe_call G_law_barred R_law_barred (by rfl) g_law_barred k_law_barred b_law_barred .nil pass0 (pa_cons (pv 3) pa_nil)) (pa_cons (pv 8) (pa_cons (pe_callB call_len_seq (by rfl) T.n_len PySem.boot_len (pa_cons (pv 6) pa_nil)) (pa_cons pe_int pa_nil)))))) (pss_one (ps_ret (pe_tup (pa_cons pe_str (pa_cons (pv 8) (pa_cons (pe_callTy call_tuple_of (by rfl) T.n_tuple (by decide +kernel) (pa_cons (pv 6) pa_nil)) (pa_cons (pe_call G_law_formula R_law_formula (by rfl) g_law_formula k_law_formula b_law_formula .nil pass0 (pa_cons (pv 0) (pa_cons (pe_op op_sub (pv 1) pe_int) (pa_cons (pv 2) (pa_cons (pv 9) (pa_cons (pv 4) pa_nil)))))) (pa_cons (pv 7) pa_nil))))))))) pss_nil) (pss_cons (ps_if (pt_cmpR op_eq (pv 5) pe_str (nomark _)) (pss_cons (ps_set (i := 6) sc_bound.nd rfl (Or.inl rfl) (pe_call G_law_some_of R_law_some_of (by rfl) g_law_some_of k_law_some_of b_law_some_of .nil pass0 (pa_cons (pv 0) (pa_cons (pv 2) (pa_cons pe_int pa_nil))))) (pss_cons (ps_set (i := 7) sc_bound.nd rfl (Or.inl rfl) (pe_tup (pa_cons (pe_ix ix_list (pv 2) (pe_op op_mod (pe_call G_law_draw R_law_draw (by rfl) g_law_draw k_law_draw b_law_draw .nil pass0 (pa_cons (pv 0) pa_nil)) (pe_callB call_len_seq (by rfl) T.n_len PySem.boot_len (pa_cons (pv 2) pa_nil))) (fun _ _ => rfl)) (pa_cons (pe_ix ix_list (pv 2) (pe_op op_mod (pe_call G_law_draw R_law_draw (by rfl) g_law_draw k_law_draw b_law_draw .nil pass0 (pa_cons (pv 0) pa_nil)) (pe_callB call_len_seq (by rfl) T.n_len PySem.boot_len (pa_cons (pv 2) pa_nil))) (fun _ _ => rfl)) pa_nil)))) (pss_one (ps_ret (pe_tup (pa_cons pe_str (pa_cons (pe_callTy call_tuple_of (by rfl) T.n_tuple (by decide +kernel) (pa_cons (pv 6) pa_nil)) (pa_cons (pe_call G_law_formula R_law_formula (by rfl) g_law_formula k_law_formula b_law_formula .nil pass0 (pa_cons (pv 0) (pa_cons (pe_op op_sub (pv 1) pe_int) (pa_cons (pv 2) (pa_cons (pv 3) (pa_cons (pv 4) pa_nil)))))) (pa_cons (pv 7) pa_nil))))))))) pss_nil) (pss_cons (ps_set (i := 10) sc_bound.nd rfl (Or.inl rfl) (pe_op op_mod (pe_call G_law_draw R_law_draw (by rfl) g_law_draw k_law_draw b_law_draw .nil pass0 (pa_cons (pv 0) pa_nil)) pe_int)) (pss_cons (ps_set (i := 9) sc_bound.nd rfl (Or.inl rfl) (pe_call G_law_within R_law_within (by rfl) g_law_within k_law_within b_law_within .nil pass0 (pa_cons (pv 3) (pa_cons (pv 8) (pa_cons (pv 10) (pa_cons pe_int pa_nil)))))) (pss_one (ps_ret (pe_tup (pa_cons pe_str (pa_cons (pv 8) (pa_cons (pv 10) (pa_cons (pe_call G_law_formula R_law_formula (by rfl) g_law_formula k_law_formula b_law_formula .nil pass0 (pa_cons (pv 0) (pa_cons (pe_op op_sub (pv 1) pe_int) (pa_cons (pv 2) (pa_cons (pv 9) (pa_cons (pv 4) pa_nil)))))) pa_nil)))))))))))))))))), ?_⟩
    obtain ⟨bp, rfl, _⟩ := strsL ga.dp
    obtain ⟨kl, kl0, klS, dk0⟩ := ga.dk
    obtain ⟨bk, rfl, hbk⟩ := strsL dk0
    have p2 := ga.po.two
    have p20 := ga.po.few
    have lp : (pool.map V.str).length = pool.length := List.length_map ..
    -- pick
    refine ⟨_, rfl, _, rfl, d, l, rfl, ga.dr, fun z1 H1 _ _ dr1 k1 => ?_⟩
    have ga1 := ga.kp k1 dr1
    obtain ⟨pick, hpick0, hat⟩ := atI_str (as := kl) z1 kl0
    have hpick := klS pick hpick0
    have hbk1 := SqL.kpA hbk (far_strs _) ga.dr k1
    refine ⟨_, rfl, bk, _, rfl, .inl hbk1, _, _, rfl, rfl, (by rw [List.length_map]; omega), bk, _, _, _, rfl, rfl, hbk1, hat, ?_⟩
    refine ⟨_, rfl, bp, _, rfl, .inl (strsR ga1.dp), rfl, _, rfl, ?_⟩
    refine cF (k := decide (V.int ((pool.map V.str).length : Nat) = V.int 1)) (decide_eq_false fun z => by have := V.int.inj z; omega) (iteF ?_)
    -- args
    refine ⟨_, rfl, _, rfl, _, rfl, bp, _, rfl, .inl (strsR ga1.dp), ?_⟩
    refine ⟨(by show 6 ≤ sizeLine; decide), fun c nc => ?_⟩
    have ga2 := ga1.same (same_upd (o := .lst [.int 1, .int 1, .int 1, .int 2, .int 2, .int 3]) nc)
    have ncd := (dr1.ne nc).1
    refine ⟨_, rfl, d, l, rfl, ga2.dr, fun z2 H2 _ _ dr2 k2 => ?_⟩
    have ga3 := ga2.kp k2 dr2
    have kk3 : Kp d H H2 := (k1.trans (.of (same_upd nc))).trans k2
    obtain ⟨v6, hv6, hat6⟩ := atI_mod (xs := [.int 1, .int 1, .int 1, .int 2, .int 2, .int 3]) z2 (by decide)
    obtain ⟨j, rfl, j1, j3⟩ : ∃ j : Nat, v6 = .int (j : Int) ∧ 1 ≤ j ∧ j ≤ 3 := by
      simp only [List.mem_cons, List.not_mem_nil, or_false] at hv6
      rcases hv6 with rfl | rfl | rfl | rfl | rfl | rfl
      · exact ⟨1, rfl, by decide, by decide⟩
      · exact ⟨1, rfl, by decide, by decide⟩
      · exact ⟨1, rfl, by decide, by decide⟩
      · exact ⟨2, rfl, by decide, by decide⟩
      · exact ⟨2, rfl, by decide, by decide⟩
      · exact ⟨3, rfl, by decide, by decide⟩
    refine ⟨_, _, rfl, rfl, (by show (0 : Int) < 6; decide), c, _, _, _, rfl, rfl, SqL.of (k2 _ _ upd_same ncd), hat6, ?_⟩
    have em : (if (j : Int) < ((pool.map V.str).length : Int) then (j : Int) else ((pool.map V.str).length : Int)) = ((min j pool.length : Nat) : Int) := by
      rw [lp]
      split <;> omega
    refine ⟨_, _, rfl, ?_⟩
    refine ⟨d, l, .ref bp, pool, min j pool.length, by rw [em]; rfl, dr2, Dp.wod dr2 ga3.dp (good_strl _), Nat.min_le_right _ _, p20, fun H3 ra ch dr3 k3 dch lch sub nd => ?_⟩
    have ga4 := ga3.kp k3 dr3
    have kk4 := kk3.trans k3
    have hra : SqL K H3 ra (ch.map V.str) := strsR (Dp.same wo_sub dch)
    have own : OwnOk ch := ⟨by omega, by omega, fun x hx => ga.po.nm x (sub x hx), nd ga.po.nd⟩
    have lc : (ch.map V.str).length = ch.length := List.length_map ..
    -- given
    refine ⟨_, rfl, ra, rfl, ⟨_, hra⟩, fun M nM => ?_⟩
    obtain ⟨nMd, nMl⟩ := dr3.ne nM
    refine lc_it (walk_list (K := K) (a := ra) (xs := ch.map V.str)) (fun i H5 => ∃ as : List Str, DrA H5 d l ∧ Kp d H3 H5 ∧ H5 M = some (.lst (as.map V.str)) ∧ as.length = i ∧ ∀ x, x ∈ as → x ∈ pool) ⟨[], dr3.same (same_upd nM), .of (same_upd nM), upd_same, rfl, fun x hx => nomatch hx⟩ (fun i H5 _ ⟨_, _, k5, _⟩ => SqL.kpA hra (far_strs _) dr3 k5) ?_ ?_
    · rintro i y H5 H6 hi ⟨as, dr5, k5, hM, len, hs⟩ ⟨rfl, _⟩
      refine ⟨rfl, _, rfl, _, rfl, d, l, rfl, dr5, fun z6 H7 _ _ dr7 k7 => ?_⟩
      have ga7 := ga4.kp (k5.trans k7) dr7
      obtain ⟨x, hx, hax⟩ := atI_str (as := pool) z6 (by omega)
      have hM7 := k7 _ _ hM nMd
      refine ⟨_, rfl, bp, _, rfl, .inl (strsR ga7.dp), _, _, rfl, rfl, (by omega), bp, _, _, _, rfl, rfl, strsR ga7.dp, hax, _, hM7, ?_, as ++ [x], dr7.kp Kp.upd ⟨nMd, nMl⟩, kp_own (k5.trans k7) nM, ?_, ?_, ?_⟩
      · rw [List.length_map]
        exact small1000 (by omega)
      · rw [upd_same, List.map_append]; rfl
      · rw [List.length_append, len]; rfl
      · intro y hy
        rcases List.mem_append.mp hy with hy | hy
        · exact hs y hy
        · rw [List.mem_singleton.mp hy]; exact hx
    · rintro H5 ⟨as, dr5, k5, hM, len, hva⟩
      have nas : Names as := fun x hx => ga.po.nm x (hva x hx)
      rw [lc] at len
      refine ⟨M, _, rfl, .inl ⟨SqL.of hM, fun u nu => ?_⟩⟩
      have su := same_upd (o := .tup (as.map V.str)) nu
      -- name
      refine ⟨(by show 3 ≤ sizeLine; decide), fun c2 nc2 => ?_⟩
      have sc2 := same_upd (o := .lst ((["r", "s", "e"] : List Str).map V.str)) nc2
      have dr6 := (dr5.same su).same sc2
      have nc2d := ((dr5.same su).ne nc2).1
      refine ⟨_, rfl, d, l, rfl, dr6, fun z3 H7 _ _ dr7 k7 => ?_⟩
      obtain ⟨nm, hnm, hatn⟩ := atI_str (as := ["r", "s", "e"]) z3 (by decide)
      have nmN : Nm nm := by
        simp only [List.mem_cons, List.not_mem_nil, or_false] at hnm
        rcases hnm with rfl | rfl | rfl <;> exact nm_of (by decide +kernel)
      have nm5 : nm ∈ five := by
        simp only [List.mem_cons, List.not_mem_nil, or_false] at hnm
        rcases hnm with rfl | rfl | rfl <;> decide +kernel
      refine ⟨_, _, rfl, rfl, (by show (0 : Int) < 3; decide), c2, _, _, _, rfl, rfl, SqL.of (k7 _ _ upd_same nc2d), hatn, ?_⟩
      have k37 : Kp d H3 H7 := ((k5.trans (.of su)).trans (.of sc2)).trans k7
      have kk7 := kk4.trans k37
      have ga7 := ga4.kp k37 dr7
      have hra7 : SqL K H7 ra (ch.map V.str) := SqL.kpA hra (far_strs _) dr3 k37
      have hu7 : SqT K H7 u (as.map V.str) := SqT.kl (.dr k7 dr6) (Same.sqt sc2 (.inl (.inl upd_same)))
      clear hatn hat6 hat hra hM
      have n1 : 1 ≤ m ∧ m ≤ n := by omega
      have f60 := ga.few
      simp only [kindsL, List.mem_cons, List.not_mem_nil, or_false] at hpick
      rcases hpick with rfl | rfl | rfl | rfl | rfl | rfl
      · refine ⟨_, rfl, rfl, _, rfl, cT (k := decide (V.str "some" = V.str "some")) (by decide +kernel) (iteT ?_)⟩
        refine ⟨_, rfl, _, rfl, ra, _, rfl, .inl ⟨hra7, fun u2 nu2 => ?_⟩⟩
        have su2 := same_upd (o := .tup (ch.map V.str)) nu2
        have ga8 := ga7.same su2
        refine ⟨_, rfl, _, rfl, _, _, rfl, rfl, _, rfl, _, rfl, _, rfl, d, l, _, .ref bp, vn, .ref bk, pool, ns, Γ, m, rfl, by omega, n1, ⟨ga8.dr, ga8.dp, ga8.dn, ga8.dk, ga8.ok, ga8.po, by omega⟩, fun H8 rf g dr8 k8 dg hg => ?_⟩
        refine ⟨(by show 3 ≤ sizeLine; decide), fun rr nr => ?_⟩
        have s8 := same_upd (o := .tup [.str "some", .ref u2, rf]) nr
        refine q _ _ (.mk (.ex ch) [g]) (dr8.same s8) (((kk7.trans (.of su2)).trans k8).trans (.of s8)) ?_ (.quant (.inl rfl) own sub hg)
        rw [Fm.data_mk]
        exact .tup (.inl (.inl upd_same)) (.cons (.str _) (.cons (tS_of (Same.sqt s8 (SqT.kl (.dr k8 ga8.dr) (.inl (.inl upd_same))))) (.cons (Dp.same s8 dg) .nil)))
      · refine ⟨_, rfl, rfl, _, rfl, cF (k := decide (V.str "all" = V.str "some")) (by decide +kernel) ⟨_, rfl, rfl, _, rfl, cT (k := decide (V.str "all" = V.str "all")) (by decide +kernel) ?_⟩⟩
        refine ⟨_, rfl, _, rfl, ra, _, rfl, .inl ⟨hra7, fun u2 nu2 => ?_⟩⟩
        have su2 := same_upd (o := .tup (ch.map V.str)) nu2
        have ga8 := ga7.same su2
        refine ⟨_, rfl, _, rfl, _, _, rfl, rfl, _, rfl, _, rfl, _, rfl, d, l, _, .ref bp, vn, .ref bk, pool, ns, Γ, m, rfl, by omega, n1, ⟨ga8.dr, ga8.dp, ga8.dn, ga8.dk, ga8.ok, ga8.po, by omega⟩, fun H8 rf g dr8 k8 dg hg => ?_⟩
        refine ⟨(by show 3 ≤ sizeLine; decide), fun rr nr => ?_⟩
        have s8 := same_upd (o := .tup [.str "all", .ref u2, rf]) nr
        refine q _ _ (.mk (.al ch) [g]) (dr8.same s8) (((kk7.trans (.of su2)).trans k8).trans (.of s8)) ?_ (.quant (.inr rfl) own sub hg)
        rw [Fm.data_mk]
        exact .tup (.inl (.inl upd_same)) (.cons (.str _) (.cons (tS_of (Same.sqt s8 (SqT.kl (.dr k8 ga8.dr) (.inl (.inl upd_same))))) (.cons (Dp.same s8 dg) .nil)))
      · refine ⟨_, rfl, rfl, _, rfl, cF (k := decide (V.str "lfp" = V.str "some")) (by decide +kernel) ⟨_, rfl, rfl, _, rfl, cF (k := decide (V.str "lfp" = V.str "all")) (by decide +kernel) ?_⟩⟩
        refine ⟨_, rfl, rfl, _, rfl, cT (k := decide (V.str "lfp" = V.str "lfp")) (by decide +kernel) ?_⟩
        refine ⟨_, rfl, _, rfl, _, rfl, ra, _, rfl, .inl hra7, ?_⟩
        refine ⟨vn, nm, (ch.map V.str).length, 1, ns, rfl, ga7.dn, by omega, fun H8 ri s8 di => ?_⟩
        rw [lc] at di
        have ga8 := ga7.same s8
        have wl := within_len ns (nm, ch.length, 1)
        refine ⟨_, rfl, _, rfl, ra, _, rfl, .inl ⟨s8.seq hra7, fun u2 nu2 => ?_⟩⟩
        have su2 := same_upd (o := .tup (ch.map V.str)) nu2
        have ga9 := ga8.same su2
        refine ⟨_, rfl, _, rfl, _, _, rfl, rfl, _, rfl, _, rfl, _, rfl, d, l, _, .ref bp, ri, .ref bk, pool, within ns (nm, ch.length, 1), Hd.env (.lfp nm ch as) Γ, m, rfl, by omega, n1, ⟨ga9.dr, ga9.dp, Dp.same su2 di, ga9.dk, ga9.ok.within nmN nm5 (by show ch.length ≤ 3; omega) (by show 1 ≤ 3; decide) (fun x => rfl), ga9.po, by omega⟩, fun H9 rf g dr9 k9 dg hg => ?_⟩
        refine ⟨_, rfl, (by show 5 ≤ sizeLine; decide), fun rr nr => ?_⟩
        have s9 := same_upd (o := .tup [.str "lfp", .str nm, .ref u2, rf, .ref u]) nr
        refine q _ _ (.mk (.lfp nm ch as) [g]) (dr9.same s9) ((((kk7.trans (.of s8)).trans (.of su2)).trans k9).trans (.of s9)) ?_ (.lfp nmN own len nas sub hva hg)
        rw [Fm.data_mk]
        exact .tup (.inl (.inl upd_same)) (.cons (.str _) (.cons (.str _) (.cons (tS_of (Same.sqt s9 (SqT.kl (.dr k9 ga9.dr) (.inl (.inl upd_same))))) (.cons (Dp.same s9 dg) (.cons (tS_of (Same.sqt s9 (SqT.kl (.dr k9 ga9.dr) (Same.sqt su2 (Same.sqt s8 hu7))))) .nil)))))
      · refine ⟨_, rfl, rfl, _, rfl, cF (k := decide (V.str "pfp" = V.str "some")) (by decide +kernel) ⟨_, rfl, rfl, _, rfl, cF (k := decide (V.str "pfp" = V.str "all")) (by decide +kernel) ?_⟩⟩
        refine ⟨_, rfl, rfl, _, rfl, cF (k := decide (V.str "pfp" = V.str "lfp")) (by decide +kernel) ?_⟩
        refine ⟨_, rfl, rfl, _, rfl, cT (k := decide (V.str "pfp" = V.str "pfp")) (by decide +kernel) ?_⟩
        refine ⟨_, rfl, vn, ns, rfl, ga7.dn, by omega, ga7.ok.md, fun H7b rb s7b db => ?_⟩
        refine ⟨_, rfl, _, rfl, ra, _, rfl, .inl (s7b.seq hra7), ?_⟩
        have bl := barred_len ns
        refine ⟨rb, nm, (ch.map V.str).length, 0, barred ns, rfl, db, by omega, fun H8 ri s8b di => ?_⟩
        have s8 := s7b.trans s8b
        rw [lc] at di
        have ga8 := ga7.same s8
        have wl := within_len (barred ns) (nm, ch.length, 0)
        refine ⟨_, rfl, _, rfl, ra, _, rfl, .inl ⟨s8.seq hra7, fun u2 nu2 => ?_⟩⟩
        have su2 := same_upd (o := .tup (ch.map V.str)) nu2
        have ga9 := ga8.same su2
        refine ⟨_, rfl, _, rfl, _, _, rfl, rfl, _, rfl, _, rfl, _, rfl, d, l, _, .ref bp, ri, .ref bk, pool, within (barred ns) (nm, ch.length, 0), Hd.env (.pfp nm ch as) Γ, m, rfl, by omega, n1, ⟨ga9.dr, ga9.dp, Dp.same su2 di, ga9.dk, ga9.ok.barred.within nmN nm5 (by show ch.length ≤ 3; omega) (by show 0 ≤ 3; decide) (fun x => rfl), ga9.po, by omega⟩, fun H9 rf g dr9 k9 dg hg => ?_⟩
        refine ⟨_, rfl, (by show 5 ≤ sizeLine; decide), fun rr nr => ?_⟩
        have s9 := same_upd (o := .tup [.str "pfp", .str nm, .ref u2, rf, .ref u]) nr
        refine q _ _ (.mk (.pfp nm ch as) [g]) (dr9.same s9) ((((kk7.trans (.of s8)).trans (.of su2)).trans k9).trans (.of s9)) ?_ (.pfp nmN own len nas sub hva hg)
        rw [Fm.data_mk]
        exact .tup (.inl (.inl upd_same)) (.cons (.str _) (.cons (.str _) (.cons (tS_of (Same.sqt s9 (SqT.kl (.dr k9 ga9.dr) (.inl (.inl upd_same))))) (.cons (Dp.same s9 dg) (.cons (tS_of (Same.sqt s9 (SqT.kl (.dr k9 ga9.dr) (Same.sqt su2 (Same.sqt s8 hu7))))) .nil)))))
      · refine ⟨_, rfl, rfl, _, rfl, cF (k := decide (V.str "tc" = V.str "some")) (by decide +kernel) ⟨_, rfl, rfl, _, rfl, cF (k := decide (V.str "tc" = V.str "all")) (by decide +kernel) ?_⟩⟩
        refine ⟨_, rfl, rfl, _, rfl, cF (k := decide (V.str "tc" = V.str "lfp")) (by decide +kernel) ?_⟩
        refine ⟨_, rfl, rfl, _, rfl, cF (k := decide (V.str "tc" = V.str "pfp")) (by decide +kernel) ?_⟩
        refine ⟨_, rfl, rfl, _, rfl, cT (k := decide (V.str "tc" = V.str "tc")) (by decide +kernel) ?_⟩
        refine ⟨_, rfl, _, rfl, d, l, .ref bp, pool, 2, rfl, ga7.dr, Dp.wod ga7.dr ga7.dp (good_strl _), p2, p20, fun H8 ra2 ch2 dr8 k8 dch2 lch2 sub2 nd2 => ?_⟩
        have ga8 := ga7.kp k8 dr8
        have hra8 : SqL K H8 ra2 (ch2.map V.str) := strsR (Dp.same wo_sub dch2)
        refine ⟨_, rfl, _, rfl, d, l, rfl, dr8, fun z5 H9 _ _ dr9 k9 => ?_⟩
        have ga9 := ga8.kp k9 dr9
        obtain ⟨x, hx, hax⟩ := atI_str (as := pool) z5 (by omega)
        refine ⟨_, rfl, bp, _, rfl, .inl (strsR ga9.dp), _, _, rfl, rfl, (by omega), bp, _, _, _, rfl, rfl, strsR ga9.dp, hax, ?_⟩
        refine ⟨_, rfl, _, rfl, d, l, rfl, dr9, fun z6 H10 _ _ dr10 k10 => ?_⟩
        have ga10 := ga9.kp k10 dr10
        obtain ⟨y, hy, hay⟩ := atI_str (as := pool) z6 (by omega)
        refine ⟨_, rfl, bp, _, rfl, .inl (strsR ga10.dp), _, _, rfl, rfl, (by omega), bp, _, _, _, rfl, rfl, strsR ga10.dp, hay, ?_⟩
        refine ⟨(by show 2 ≤ sizeLine; decide), fun ug nug => ?_⟩
        have sg := same_upd (o := .tup [.str x, .str y]) nug
        have ga11 := ga10.same sg
        have k8_11 : Kp d H8 _ := (k9.trans k10).trans (.of sg)
        refine ⟨_, rfl, ra2, _, rfl, .inl ⟨SqL.kpA hra8 (far_strs _) dr8 k8_11, fun u2 nu2 => ?_⟩⟩
        have su2 := same_upd (o := .tup (ch2.map V.str)) nu2
        have ga12 := ga11.same su2
        refine ⟨_, rfl, _, rfl, _, _, rfl, rfl, _, rfl, _, rfl, _, rfl, d, l, _, .ref bp, vn, .ref bk, pool, ns, Γ, m, rfl, by omega, n1, ⟨ga12.dr, ga12.dp, ga12.dn, ga12.dk, ga12.ok, ga12.po, by omega⟩, fun H13 rf g dr13 k13 dg hg => ?_⟩
        refine ⟨_, rfl, (by show 4 ≤ sizeLine; decide), fun rr nr => ?_⟩
        have s9 := same_upd (o := .tup [.str "tc", .ref u2, rf, .ref ug]) nr
        have xy : ∀ z, z ∈ [x, y] → z ∈ pool := fun z hz => by
          rcases List.mem_cons.mp hz with rfl | hz
          · exact hx
          · rw [List.mem_singleton.mp hz]; exact hy
        refine q _ _ (.mk (.tc ch2 [x, y]) [g]) (dr13.same s9) (((((kk7.trans k8).trans k8_11).trans (.of su2)).trans k13).trans (.of s9)) ?_ (.tc lch2 (fun z hz => ga.po.nm z (sub2 z hz)) (nd2 ga.po.nd) rfl (fun z hz => ga.po.nm z (xy z hz)) sub2 xy hg)
        rw [Fm.data_mk]
        exact .tup (.inl (.inl upd_same)) (.cons (.str _) (.cons (tS_of (Same.sqt s9 (SqT.kl (.dr k13 ga12.dr) (.inl (.inl upd_same))))) (.cons (Dp.same s9 dg) (.cons (tS_of (as := [x, y]) (Same.sqt s9 (SqT.kl (.dr k13 ga12.dr) (Same.sqt su2 (.inl (.inl upd_same)))))) .nil))))
      · refine ⟨_, rfl, rfl, _, rfl, cF (k := decide (V.str "guess" = V.str "some")) (by decide +kernel) ⟨_, rfl, rfl, _, rfl, cF (k := decide (V.str "guess" = V.str "all")) (by decide +kernel) ?_⟩⟩
        refine ⟨_, rfl, rfl, _, rfl, cF (k := decide (V.str "guess" = V.str "lfp")) (by decide +kernel) ?_⟩
        refine ⟨_, rfl, rfl, _, rfl, cF (k := decide (V.str "guess" = V.str "pfp")) (by decide +kernel) ?_⟩
        refine ⟨_, rfl, rfl, _, rfl, cF (k := decide (V.str "guess" = V.str "tc")) (by decide +kernel) ?_⟩
        refine ⟨_, rfl, d, l, rfl, ga7.dr, fun z4 H8 _ _ dr8 k8 => ?_⟩
        have ga8 := ga7.kp k8 dr8
        refine ⟨_, _, rfl, rfl, (by show (0 : Int) < 2; decide), ?_⟩
        obtain ⟨ka, hka, ka1⟩ : ∃ k : Nat, z4 % 2 = (k : Int) ∧ k ≤ 1 := ⟨(z4 % 2).toNat, by omega, by omega⟩
        show gName 10 (V.int (z4 % 2)) _ _ _
        rw [hka]
        refine ⟨_, rfl, _, rfl, _, rfl, ?_⟩
        refine ⟨vn, nm, ka, 0, ns, rfl, ga8.dn, by omega, fun H9 ri s9 di => ?_⟩
        have ga9 := ga8.same s9
        have wl := within_len ns (nm, ka, 0)
        refine ⟨_, rfl, _, rfl, ?_⟩
        refine ⟨_, rfl, _, rfl, _, _, rfl, rfl, _, rfl, _, rfl, _, rfl, d, l, _, .ref bp, ri, .ref bk, pool, within ns (nm, ka, 0), Hd.env (.gs nm ka) Γ, m, rfl, by omega, n1, ⟨ga9.dr, ga9.dp, di, ga9.dk, ga9.ok.within nmN nm5 (by show ka ≤ 3; omega) (by show 0 ≤ 3; decide) (fun x => rfl), ga9.po, by omega⟩, fun H10 rf g dr10 k10 dg hg => ?_⟩
        refine ⟨(by show 4 ≤ sizeLine; decide), fun rr nr => ?_⟩
        have s10 := same_upd (o := .tup [.str "guess", .str nm, .int (ka : Nat), rf]) nr
        refine q _ _ (.mk (.gs nm ka) [g]) (dr10.same s10) ((((kk7.trans k8).trans (.of s9)).trans k10).trans (.of s10)) ?_ (.gs nmN (by omega) hg)
        rw [Fm.data_mk]
        exact .tup (.inl (.inl upd_same)) (.cons (.str _) (.cons (.str _) (.cons (.int _) (.cons (Dp.same s10 dg) .nil))))
end
def spNamesL (K : PySem.W.Frag) : Sp := fun vs H Q _ => ∃ (d l : Addr), vs = [.ref d] ∧ DrA H d l ∧ ∀ (H' : Hp) (r : V) (ns : List NE) (Γ : ArE), DrA H' d l → Kp d H H' → Dp K H' r (nsD ns) → NOk ns Γ → ns.length ≤ 3 → Q r H'
def namesL : List NE := [(("e" : Str), 2, 0), (("p" : Str), 1, 0), (("q" : Str), 0, 0)]
def envL : ArE := fun x => if x = "e" then some 2 else if x = "p" then some 1 else some 0
theorem namesL_ok : NOk namesL envL := by
  have c : ∀ p, p ∈ namesL → p = (("e" : Str), 2, 0) ∨ p = (("p" : Str), 1, 0) ∨ p = (("q" : Str), 0, 0) := fun p hp => by simpa [namesL] using hp
  refine ⟨fun p hp => ?_, fun p hp => ?_, fun p hp => ?_, fun p hp => ?_, fun p q hp hq e => ?_, fun p hp => ?_⟩
  · rcases c p hp with rfl | rfl | rfl <;> exact nm_of (by decide +kernel)
  · rcases c p hp with rfl | rfl | rfl <;> decide
  · rcases c p hp with rfl | rfl | rfl <;> decide
  · rcases c p hp with rfl | rfl | rfl <;> decide +kernel
  · rcases c p hp with rfl | rfl | rfl <;> rcases c q hq with rfl | rfl | rfl <;> first | rfl | exact absurd e (by decide +kernel)
  · rcases c p hp with rfl | rfl | rfl <;> decide +kernel
theorem NOk.sub {ns ms : List NE} {Γ : ArE} (k : NOk ns Γ) (h : ∀ p, p ∈ ms → p ∈ ns) : NOk ms Γ :=
  ⟨fun p hp => k.nm p (h p hp), fun p hp => k.ar p (h p hp), fun p hp => k.md p (h p hp), fun p hp => k.fit p (h p hp), fun p q hp hq e => k.uni p q (h p hp) (h q hq) e, fun p hp => k.fv p (h p hp)⟩
theorem cut_map {xs : List V} {j : Nat} (h : xs.length < 1000) (k : j ≤ xs.length) : cutV xs none (some ((j : Nat) : Int)) = xs.take j := by
  unfold cutV
  have e1 : HT.sIx xs.length 0 none = 0 := rfl
  have e2 : HT.sIx xs.length xs.length (some ((j : Nat) : Int)) = j := by
    simp only [HT.sIx]
    split <;> omega
  rw [e1, e2]
  rfl
section
variable {P : Program} {w : World} {K : PySem.W.Frag} {mg : Str → Option Value} {base : Heap}
theorem DpAll.takeN {H : Hp} : ∀ {vs : List V} {ts : List PyData} (j : Nat), DpAll K H vs ts → DpAll K H (vs.take j) (ts.take j)
  | _, _, 0, _ => by rw [List.take_zero, List.take_zero]; exact .nil
  | _, _, j + 1, .nil => .nil
  | _, _, j + 1, .cons a t => .cons a (DpAll.takeN j t)
theorem sc_names : FnScope ["draws"] ["draws"] (defScope (top 72)) := ⟨rfl, rfl, rfl, by decide +kernel, rfl, by decide +kernel, by decide +kernel⟩
theorem has_names (D : Def K mg "_law_names" ["draws"] (top 72)) (T : Txt mg) (C1 : Has P w K mg base 2 "_law_draw" ["draws"] spDraw) : Has P w K mg base 3 "_law_names" ["draws"] (spNamesL K) := D.has fun f fd F => by
  obtain ⟨f1, fd1, G_law_draw, g_law_draw, k_law_draw, b_law_draw⟩ := C1
  refine F.ok sc_names (fun vs H Q E h => ?_) (fun cdv A outer s H vs Q E hr h => ?_)
  · obtain ⟨d, l, rfl, _⟩ := h; rfl
  · obtain ⟨d, l, rfl, dr, q⟩ := h
    have R_law_draw : Room 2 _ := hr
    refine ⟨_, PSs.nox (pss_one (ps_ret (pe_slice sl_list (pe_lst (pa_cons (pe_tup (pa_cons pe_str (pa_cons pe_int (pa_cons pe_int pa_nil)))) (pa_cons (pe_tup (pa_cons pe_str (pa_cons pe_int (pa_cons pe_int pa_nil)))) (pa_cons (pe_tup (pa_cons pe_str (pa_cons pe_int (pa_cons pe_int pa_nil)))) pa_nil)))) po_none (po_some (pe_op op_add pe_int (pe_op op_mod (pe_call G_law_draw R_law_draw (by rfl) g_law_draw k_law_draw b_law_draw .nil pass0 (pa_cons (pv 0) pa_nil)) pe_int)))))), ?_⟩
    refine ⟨(by show 3 ≤ sizeLine; decide), fun t1 n1 => ⟨(by show 3 ≤ sizeLine; decide), fun t2 n2 => ⟨(by show 3 ≤ sizeLine; decide), fun t3 n3 => ?_⟩⟩⟩
    have s1 := same_upd (o := .tup [.str "e", .int 2, .int 0]) n1
    have s2 := same_upd (o := .tup [.str "p", .int 1, .int 0]) n2
    have s3 := same_upd (o := .tup [.str "q", .int 0, .int 0]) n3
    refine ⟨(by show 3 ≤ sizeLine; decide), fun c nc => ?_⟩
    have s4 := same_upd (o := .lst [.ref t1, .ref t2, .ref t3]) nc
    have s14 := ((s1.trans s2).trans s3).trans s4
    have dr4 := dr.same s14
    have nd := ((dr.same ((s1.trans s2).trans s3)).ne nc).1
    have dall : DpAll K _ [.ref t1, .ref t2, .ref t3] (namesL.map nD) := .cons (nD_of (p := ("e", 2, 0)) (Same.sqt (s2.trans s3) (.inl (.inl upd_same)))) (.cons (nD_of (p := ("p", 1, 0)) (Same.sqt s3 (.inl (.inl upd_same)))) (.cons (nD_of (p := ("q", 0, 0)) (.inl (.inl upd_same))) .nil))
    refine ⟨_, rfl, d, l, rfl, dr4, fun z H5 _ _ dr5 k5 => ?_⟩
    refine ⟨_, _, rfl, rfl, (by show (0 : Int) < 3; decide), ?_⟩
    obtain ⟨j, hj, j2⟩ : ∃ k : Nat, z % 3 = (k : Int) ∧ k ≤ 2 := ⟨(z % 3).toNat, by omega, by omega⟩
    refine ⟨_, _, rfl, rfl, ?_⟩
    refine ⟨((1 + j : Nat) : Int), congrArg V.int (by omega), c, _, rfl, SqL.of (k5 _ _ upd_same nd), fun r nr => ?_⟩
    have s6 := same_upd (o := .lst (cutV [.ref t1, .ref t2, .ref t3] none (some ((1 + j : Nat) : Int)))) nr
    refine q _ (.ref r) (namesL.take (1 + j)) envL (dr5.same s6) (((Kp.of s14).trans k5).trans (.of s6)) (.lst (.inl (.inl upd_same)) ?_) (namesL_ok.sub fun p hp => List.mem_of_mem_take hp) (List.length_take_le' _ _)
    have ec := cut_map (xs := [.ref t1, .ref t2, .ref t3]) (j := 1 + j) (by show 3 < 1000; decide) (by show 1 + j ≤ 3; omega)
    revert s6
    rw [ec, List.map_take]
    intro s6
    exact DpAll.takeN _ (DpAll.same s6 (DpAll.kl (.dr k5 dr4) (DpAll.same s4 dall) (ns_noL _)))
theorem sc_formula : FnScope ["draws", "deep", "pool", "names", "kinds", "pick", "word", "many", "k"] ["draws", "deep", "pool", "names", "kinds"] (defScope (top 71)) := ⟨rfl, rfl, rfl, by decide +kernel, rfl, by decide +kernel, by decide +kernel⟩
theorem has_formula (D : Def K mg "_law_formula" ["draws", "deep", "pool", "names", "kinds"] (top 71)) (T : Txt mg) (C1 : Has P w K mg base 2 "_law_draw" ["draws"] spDraw) (C2 : Has P w K mg base 3 "_law_atom" ["draws", "pool", "names"] (spAtom K))
    (C3 : Has P w K mg base 1 "_law_turned" ["names"] (spMode K turned)) (C4 : ∀ n, Has P w K mg base (4 + 2 * n) "_law_formula" ["draws", "deep", "pool", "names", "kinds"] (spForm K n) → Has P w K mg base (4 + 2 * n + 1) "_law_bound" ["draws", "deep", "pool", "names", "kinds"] (spBound K (n + 1))) :
    ∀ n : Nat, Has P w K mg base (4 + 2 * n) "_law_formula" ["draws", "deep", "pool", "names", "kinds"] (spForm K n) := by
  obtain ⟨f1, fd1, G_law_draw, g_law_draw, k_law_draw, b_law_draw⟩ := C1
  obtain ⟨f2, fd2, G_law_atom, g_law_atom, k_law_atom, b_law_atom⟩ := C2
  obtain ⟨f3, fd3, G_law_turned, g_law_turned, k_law_turned, b_law_turned⟩ := C3
  intro n
  induction n with
  | zero =>
    refine D.has fun f fd F => F.ok sc_formula (fun vs H Q E h => ?_) (fun cdv A outer s H vs Q E hr h => ?_)
    · obtain ⟨d, l, k, vp, vn, vk, pool, ns, Γ, m, rfl, _⟩ := h; rfl
    · obtain ⟨d, l, k, vp, vn, vk, pool, ns, Γ, m, rfl, _, h0, _⟩ := h
      omega
  | succ n ih =>
    obtain ⟨f5, fd5, G_law_bound, g_law_bound, k_law_bound, b_law_bound⟩ := C4 n ih
    obtain ⟨f4, fd4, G_law_formula, g_law_formula, k_law_formula, b_law_formula⟩ := ih
    show Has P w K mg base (4 + 2 * n + 1 + 1) "_law_formula" ["draws", "deep", "pool", "names", "kinds"] (spForm K (n + 1))
    refine D.has fun f fd F => F.ok sc_formula (fun vs H Q E h => ?_) (fun cdv A outer s H vs Q E hr h => ?_)
    · obtain ⟨d, l, k, vp, vn, vk, pool, ns, Γ, m, rfl, _⟩ := h; rfl
    · obtain ⟨d, l, k, vp, vn, vk, pool, ns, Γ, m0, rfl, hk, h1, ga, q⟩ := h
      obtain ⟨m, rfl⟩ : ∃ m, m0 = m + 1 := ⟨m0 - 1, by omega⟩
      have R_law_draw : Room 2 _ := hr.mono (Nat.le_trans (Nat.le_trans (by decide) (Nat.le_add_right 4 (2 * n))) (Nat.le_add_right _ 1))
      have R_law_atom : Room 3 _ := hr.mono (Nat.le_trans (Nat.le_trans (by decide) (Nat.le_add_right 4 (2 * n))) (Nat.le_add_right _ 1))
      have R_law_turned : Room 1 _ := hr.mono (Nat.le_trans (Nat.le_trans (by decide) (Nat.le_add_right 4 (2 * n))) (Nat.le_add_right _ 1))
      have R_law_formula : Room (4 + 2 * n) _ := hr.mono (Nat.le_add_right _ 1)
      have R_law_bound : Room (4 + 2 * n + 1) _ := hr
      refine ⟨_, PSs.nox (pss_cons (ps_set (i := 5) sc_formula.nd rfl (Or.inl rfl) (pe_op op_mod (pe_call G_law_draw R_law_draw (by rfl) g_law_draw k_law_draw b_law_draw .nil pass0 (pa_cons (pv 0) pa_nil)) pe_int)) (pss_cons (ps_if (PW.pt (pw_or (pt_cmpR op_le (pv 1) pe_int (nomark _)) (pw_or1 (pt_cmpR op_eq (pv 5) pe_int (nomark _))))) (pss_one (ps_ret (pe_call G_law_atom R_law_atom (by rfl) g_law_atom k_law_atom b_law_atom .nil pass0 (pa_cons (pv 0) (pa_cons (pv 2) (pa_cons (pv 3) pa_nil)))))) pss_nil) (pss_cons (ps_if (pt_cmpR op_eq (pv 5) pe_int (nomark _)) (pss_one (ps_ret (pe_tup (pa_cons pe_str (pa_cons (pe_call G_law_formula R_law_formula (by rfl) g_law_formula k_law_formula b_law_formula .nil pass0 (pa_cons (pv 0) (pa_cons (pe_op op_sub (pv 1) pe_int) (pa_cons (pv 2) (pa_cons (pe_call G_law_turned R_law_turned (by rfl) g_law_turned k_law_turned b_law_turned .nil pass0 (pa_cons (pv 3) pa_nil)) (pa_cons (pv 4) pa_nil)))))) pa_nil))))) pss_nil) (pss_cons (ps_if (pt_cmpR op_lt (pv 5) pe_int (nomark _)) (pss_cons (ps_set (i := 6) sc_formula.nd rfl (Or.inl rfl) (pe_ix ix_list (pe_lst (pa_cons pe_str (pa_cons pe_str pa_nil))) (pe_op op_mod (pe_call G_law_draw R_law_draw (by rfl) g_law_draw k_law_draw b_law_draw .nil pass0 (pa_cons (pv 0) pa_nil)) pe_int) (fun _ _ => rfl))) (pss_cons (ps_set (i := 7) sc_formula.nd rfl (Or.inl rfl) (pe_ix ix_list (pe_lst (pa_cons pe_int (pa_cons pe_int (pa_cons pe_int (pa_cons pe_int (pa_cons pe_int (pa_cons pe_int pa_nil))))))) (pe_op op_mod (pe_call G_law_draw R_law_draw (by rfl) g_law_draw k_law_draw b_law_draw .nil pass0 (pa_cons (pv 0) pa_nil)) pe_int) (fun _ _ => rfl))) (pss_one (ps_ret (pe_tup (pa_cons (pv 6) (pa_cons (pe_callTy call_tuple_of (by rfl) T.n_tuple (by decide +kernel) (pa_cons (pe_lc (own := [("k", 8)]) rfl sc_formula.nd (pi_range1 (by rfl) T.n_range (pa_cons (pv 7) pa_nil)) (blkOk_by (N := ["draws", "deep", "pool", "names", "kinds", "pick", "word", "many", "k"]) (sc := defScope (top 71)) (by decide +kernel)) (fun _ _ _ _ _ => (pg_name (i := 8) sc_formula.nd rfl (Or.inl rfl))) (fun _ _ _ _ _ => pts_nil) (fun _ _ _ _ _ => (pe_call G_law_formula R_law_formula (by rfl) g_law_formula k_law_formula b_law_formula .nil pass0 (pa_cons (pv 0) (pa_cons (pe_op op_sub (pv 1) pe_int) (pa_cons (pv 2) (pa_cons (pv 3) (pa_cons (pv 4) pa_nil)))))))) pa_nil)) pa_nil))))))) pss_nil) (pss_one (ps_ret (pe_call G_law_bound R_law_bound (by rfl) g_law_bound k_law_bound b_law_bound .nil pass0 (pa_cons (pv 0) (pa_cons (pv 1) (pa_cons (pv 2) (pa_cons (pv 3) (pa_cons (pv 4) pa_nil)))))))))))), ?_⟩
      have f60 := ga.few
      refine ⟨_, rfl, d, l, rfl, ga.dr, fun z1 H1 _ _ dr1 k1 => ?_⟩
      have ga1 := ga.kp k1 dr1
      refine ⟨_, _, rfl, rfl, (by show (0 : Int) < 6; decide), ?_⟩
      by_cases ha : m = 0 ∨ z1 % 6 = 0
      · -- an atom
        have atom : tCall (spAtom K) [] E0 (tCons (tVar 0) (tCons (tVar 2) (tCons (tVar 3) tNil))) [some (.ref d), some (.int k), some vp, some vn, some vk, some (.int (z1 % 6)), none, none, none] H1 Q := by
          refine ⟨_, rfl, _, rfl, _, rfl, d, l, vp, vn, pool, ns, Γ, rfl, dr1, ga1.dp, ga1.dn, ga1.ok, ga1.po, by omega, fun H2 r f dr2 k2 df gf => ?_⟩
          exact q H2 r f dr2 (k1.trans k2) df (gf.mono (by omega))
        by_cases hn : m = 0
        · refine ⟨_, rfl, _, _, rfl, rfl, _, rfl, cT (k := decide (k ≤ 1)) (decide_eq_true (by omega)) (iteT atom)⟩
        · have hz : z1 % 6 = 0 := ha.resolve_left hn
          refine ⟨_, rfl, _, _, rfl, rfl, _, rfl, cF (k := decide (k ≤ 1)) (decide_eq_false (by omega)) ⟨_, rfl, rfl, _, rfl, cT (k := decide (V.int (z1 % 6) = V.int 0)) (decide_eq_true (by rw [hz])) atom⟩⟩
      · have hn : m ≠ 0 := fun z => ha (.inl z)
        have hz : z1 % 6 ≠ 0 := fun z => ha (.inr z)
        refine ⟨_, rfl, _, _, rfl, rfl, _, rfl, cF (k := decide (k ≤ 1)) (decide_eq_false (by omega)) ⟨_, rfl, rfl, _, rfl, cF (k := decide (V.int (z1 % 6) = V.int 0)) (decide_eq_false fun z => hz (V.int.inj z)) ?_⟩⟩
        refine ⟨_, rfl, rfl, _, rfl, ?_⟩
        by_cases h1z : z1 % 6 = 1
        · refine cT (k := decide (V.int (z1 % 6) = V.int 1)) (decide_eq_true (by rw [h1z])) ?_
          refine ⟨_, rfl, _, rfl, _, _, rfl, rfl, _, rfl, _, rfl, vn, ns, rfl, ga1.dn, by omega, ga1.ok.md, fun H2 rt s2 dt => ?_⟩
          have ga2 := ga1.same s2
          have tl := turned_len ns
          refine ⟨_, rfl, d, l, _, vp, rt, vk, pool, turned ns, Γ, m, rfl, by omega, by omega, ⟨ga2.dr, ga2.dp, dt, ga2.dk, ga2.ok.turned, ga2.po, by omega⟩, fun H3 rf g dr3 k3 dg hg => ?_⟩
          refine ⟨(by show 2 ≤ sizeLine; decide), fun rr nr => ?_⟩
          have s4 := same_upd (o := .tup [.str "not", rf]) nr
          refine q _ _ (.mk .no [g]) (dr3.same s4) (((k1.trans (.of s2)).trans k3).trans (.of s4)) ?_ (.no hg)
          rw [Fm.data_mk]
          exact .tup (.inl (.inl upd_same)) (.cons (.str _) (.cons (Dp.same s4 dg) .nil))
        · refine cF (k := decide (V.int (z1 % 6) = V.int 1)) (decide_eq_false fun z => h1z (V.int.inj z)) ?_
          refine ⟨_, rfl, _, _, rfl, rfl, _, rfl, ?_⟩
          by_cases h4 : z1 % 6 < 4
          · refine cT (k := decide (z1 % 6 < 4)) (decide_eq_true h4) ?_
            -- word
            refine ⟨(by show 2 ≤ sizeLine; decide), fun c nc => ?_⟩
            have s2 := same_upd (o := .lst ((["and", "or"] : List Str).map V.str)) nc
            have ncd := (dr1.ne nc).1
            refine ⟨_, rfl, d, l, rfl, dr1.same s2, fun z2 H3 _ _ dr3 k3 => ?_⟩
            obtain ⟨wd, hw, hat⟩ := atI_str (as := ["and", "or"]) z2 (by decide)
            refine ⟨_, _, rfl, rfl, (by show (0 : Int) < 2; decide), c, _, _, _, rfl, rfl, SqL.of (k3 _ _ upd_same ncd), hat, ?_⟩
            -- many
            refine ⟨(by show 6 ≤ sizeLine; decide), fun c2 nc2 => ?_⟩
            have s4 := same_upd (o := .lst [.int 0, .int 1, .int 2, .int 2, .int 2, .int 3]) nc2
            have nc2d := (dr3.ne nc2).1
            refine ⟨_, rfl, d, l, rfl, dr3.same s4, fun z3 H5 _ _ dr5 k5 => ?_⟩
            obtain ⟨v6, hv6, hat6⟩ := atI_mod (xs := [.int 0, .int 1, .int 2, .int 2, .int 2, .int 3]) z3 (by decide)
            obtain ⟨j, rfl, j3⟩ : ∃ j : Nat, v6 = .int (j : Int) ∧ j ≤ 3 := by
              simp only [List.mem_cons, List.not_mem_nil, or_false] at hv6
              rcases hv6 with rfl | rfl | rfl | rfl | rfl | rfl
              · exact ⟨0, rfl, by decide⟩
              · exact ⟨1, rfl, by decide⟩
              · exact ⟨2, rfl, by decide⟩
              · exact ⟨2, rfl, by decide⟩
              · exact ⟨2, rfl, by decide⟩
              · exact ⟨3, rfl, by decide⟩
            refine ⟨_, _, rfl, rfl, (by show (0 : Int) < 6; decide), c2, _, _, _, rfl, rfl, SqL.of (k5 _ _ upd_same nc2d), hat6, ?_⟩
            have k15 : Kp d H1 H5 := (((Kp.of s2).trans k3).trans (.of s4)).trans k5
            have ga5 := ga1.kp k15 dr5
            -- the parts
            refine ⟨_, rfl, _, rfl, j, rfl, by omega, by omega, fun M nM => ?_⟩
            obtain ⟨nMd, nMl⟩ := dr5.ne nM
            refine lc_it walk_range (fun i H6 => ∃ (vs : List V) (gs : List Fm), DrA H6 d l ∧ Kp d H5 H6 ∧ H6 M = some (.lst vs) ∧ DpAll K H6 vs (gs.map Fm.data) ∧ gs.length = i ∧ ∀ g, g ∈ gs → Gen pool ns Γ g m) ⟨[], [], dr5.same (same_upd nM), .of (same_upd nM), upd_same, .nil, rfl, fun x hx => nomatch hx⟩ (fun _ _ _ _ => trivial) ?_ ?_
            · rintro i y H6 H7 hi ⟨vs, gs, dr6, k6, hM, hvs, len, hs⟩ ⟨rfl, rfl⟩
              have ga6 := ga5.kp k6 dr6
              refine ⟨rfl, _, rfl, _, rfl, _, _, rfl, rfl, _, rfl, _, rfl, _, rfl, d, l, _, vp, vn, vk, pool, ns, Γ, m, rfl, by omega, by omega, ⟨ga6.dr, ga6.dp, ga6.dn, ga6.dk, ga6.ok, ga6.po, by omega⟩, fun H8 rf g dr8 k8 dg hg => ?_⟩
              have hM8 := k8 _ _ hM nMd
              have lv := DpAll.length hvs
              rw [List.length_map] at lv
              refine ⟨_, hM8, small1000 (by omega), vs ++ [rf], gs ++ [g], dr8.kp Kp.upd ⟨nMd, nMl⟩, kp_own (k6.trans k8) nM, upd_same, ?_, by rw [List.length_append, len]; rfl, fun x hx => ?_⟩
              · rw [List.map_append]
                exact DpAll.kl (Kl.upd hM8) (DpAll.snoc (DpAll.kl (.dr k8 dr6) hvs (fms_noL _)) dg) (by rw [noLs_append, fms_noL, fms_noL]; rfl)
              · rcases List.mem_append.mp hx with hx | hx
                · exact hs x hx
                · rw [List.mem_singleton.mp hx]; exact hg
            · rintro H6 ⟨vs, gs, dr6, k6, hM, hvs, len, hs⟩
              refine ⟨M, _, rfl, .inl ⟨SqL.of hM, fun u nu => ?_⟩⟩
              refine ⟨(by show 2 ≤ sizeLine; decide), fun r nr => ?_⟩
              have s7 := same_upd (o := .tup vs) nu
              have s8 := same_upd (o := .tup [.str wd, .ref u]) nr
              have kk : Kp d H _ := ((k1.trans k15).trans k6).trans (.of (s7.trans s8))
              have dd : DpAll K (upd (upd H6 u (.tup vs)) r (.tup [.str wd, .ref u])) vs (gs.map Fm.data) := DpAll.same (s7.trans s8) hvs
              rcases List.mem_cons.mp hw with rfl | hw
              · refine q _ _ (.mk .con gs) (dr6.same (s7.trans s8)) kk ?_ (.con (.inl rfl) hs (by omega))
                rw [Fm.data_mk]
                exact .tup (.inl (.inl upd_same)) (.cons (.str _) (.cons (.tup (Same.sqt s8 (.inl (.inl upd_same))) dd) .nil))
              · have ew := List.mem_singleton.mp hw
                subst ew
                refine q _ _ (.mk .dis gs) (dr6.same (s7.trans s8)) kk ?_ (.con (.inr rfl) hs (by omega))
                rw [Fm.data_mk]
                exact .tup (.inl (.inl upd_same)) (.cons (.str _) (.cons (.tup (Same.sqt s8 (.inl (.inl upd_same))) dd) .nil))
          · refine cF (k := decide (z1 % 6 < 4)) (decide_eq_false h4) ?_
            refine ⟨_, rfl, _, rfl, _, rfl, _, rfl, _, rfl, d, l, _, vp, vn, vk, pool, ns, Γ, m + 1, rfl, hk, by omega, ga1, fun H3 rf g dr3 k3 dg hg => ?_⟩
            exact q H3 rf g dr3 (k1.trans k3) dg hg
end
theorem one_of {ps : List Fm} (h : ps.length = 1) : ∃ g, ps = [g] := by
  match ps, h with
  | [g], _ => exact ⟨g, rfl⟩
theorem Same.none {H H' : Hp} {r : Addr} (s : Same H H') (e : H' r = Option.none) : H r = Option.none := by
  cases q : H r with
  | none => rfl
  | some o => rw [s _ _ q] at e; cases e
theorem none_of {ps : List Fm} (h : ps.length = 0) : ps = [] := List.length_eq_zero_iff.mp h
/-- a look at a formula -/
def spLook (K : PySem.W.Frag) (R : Fm → PyData) : Sp := fun vs H Q _ => ∃ (v : V) (f : Fm), vs = [v] ∧ Dp K H v f.data ∧ f.Ok ∧ ∀ (H' : Hp) (r : V), Same H H' → Dp K H' r (R f) → Q r H'
def spParts (K : PySem.W.Frag) : Sp := fun vs H Q _ => ∃ (v : V) (f : Fm), vs = [v] ∧ Dp K H v f.data ∧ f.Ok ∧ ∀ (H' : Hp) (r : Addr) (ys : List V), Same H H' → H r = none → H' r = some (.lst ys) → DpAll K H' ys (f.parts.map Fm.data) → Q (.ref r) H'
section
variable {P : Program} {w : World} {K : PySem.W.Frag} {mg : Str → Option Value} {base : Heap}
theorem sc_law_parts : FnScope ["f"] ["f"] (defScope (top 73)) := ⟨rfl, rfl, rfl, by decide +kernel, rfl, by decide +kernel, by decide +kernel⟩
theorem has_law_parts (D : Def K mg "_law_parts" ["f"] (top 73)) (T : Txt mg) : Has P w K mg base 1 "_law_parts" ["f"] (spParts K) := D.has fun f fd F => by
  refine F.ok sc_law_parts (fun vs H Q E h => ?_) (fun cdv A outer s H vs Q E hr h => ?_)
  · obtain ⟨v, f, rfl, _⟩ := h; rfl
  · obtain ⟨v, f, rfl, dp, ok, q⟩ := h
    refine ⟨_, PSs.nox (pss_cons (ps_if (pt_cmpR op_eq (pe_ix ix_tup (pv 0) pe_int (fun _ _ => rfl)) pe_str (nomark _)) (pss_one (ps_ret (pe_lst (pa_cons (pe_ix ix_tup (pv 0) pe_int (fun _ _ => rfl)) pa_nil)))) pss_nil) (pss_cons (ps_if (PW.pt (pw_or (pt_cmpR op_eq (pe_ix ix_tup (pv 0) pe_int (fun _ _ => rfl)) pe_str (nomark _)) (pw_or1 (pt_cmpR op_eq (pe_ix ix_tup (pv 0) pe_int (fun _ _ => rfl)) pe_str (nomark _))))) (pss_one (ps_ret (pe_callTy call_list_of (by rfl) T.n_list (by decide +kernel) (pa_cons (pe_ix ix_tup (pv 0) pe_int (fun _ _ => rfl)) pa_nil)))) pss_nil) (pss_cons (ps_if (pt_cmpR op_in_seq (pe_ix ix_tup (pv 0) pe_int (fun _ _ => rfl)) (pe_lst (pa_cons pe_str (pa_cons pe_str (pa_cons pe_str pa_nil)))) (by rfl)) (pss_one (ps_ret (pe_lst (pa_cons (pe_ix ix_tup (pv 0) pe_int (fun _ _ => rfl)) pa_nil)))) pss_nil) (pss_cons (ps_if (pt_cmpR op_in_seq (pe_ix ix_tup (pv 0) pe_int (fun _ _ => rfl)) (pe_lst (pa_cons pe_str (pa_cons pe_str (pa_cons pe_str pa_nil)))) (by rfl)) (pss_one (ps_ret (pe_lst (pa_cons (pe_ix ix_tup (pv 0) pe_int (fun _ _ => rfl)) pa_nil)))) pss_nil) (pss_one (ps_ret (pe_lst pa_nil))))))), ?_⟩
    obtain ⟨h, ps⟩ := f
    rw [Fm.data_mk] at dp
    have fit := ok.hd_
    obtain ⟨a, xs, rfl, hT, hx⟩ := hd_inv dp
    clear dp
    cases h with
    | rel n as =>
      obtain rfl := none_of fit.2.2.2
      obtain ⟨v1, w1, rfl, e1, hx⟩ := DpAll.cons_inv hx
      obtain ⟨v2, w2, rfl, e2, hx⟩ := DpAll.cons_inv hx
      obtain rfl := DpAll.nil_inv hx
      refine ⟨_, rfl, a, _, _, _, rfl, rfl, hT, atI_nat (j := 0) rfl, rfl, _, rfl, cF (k := decide (V.str "rel" = V.str "not")) (by decide +kernel) ?_⟩
      refine ⟨_, rfl, a, _, _, _, rfl, rfl, hT, atI_nat (j := 0) rfl, rfl, _, rfl, cF (k := decide (V.str "rel" = V.str "and")) (by decide +kernel) ⟨_, rfl, a, _, _, _, rfl, rfl, hT, atI_nat (j := 0) rfl, rfl, _, rfl, cF (k := decide (V.str "rel" = V.str "or")) (by decide +kernel) ?_⟩⟩
      refine ⟨_, rfl, a, _, _, _, rfl, rfl, hT, atI_nat (j := 0) rfl, (by show 3 ≤ sizeLine; decide), fun p1 np1 => ⟨_, _, rfl, .inl (SqL.of upd_same), rfl, rfl, _, rfl, cF (k := inV (.str "rel") [.str "some", .str "all", .str "tc"]) (by decide +kernel) ?_⟩⟩
      have t1 := same_upd (o := .lst [V.str "some", .str "all", .str "tc"]) np1
      refine ⟨_, rfl, a, _, _, _, rfl, rfl, (Same.sqt t1 hT), atI_nat (j := 0) rfl, (by show 3 ≤ sizeLine; decide), fun p2 np2 => ⟨_, _, rfl, .inl (SqL.of upd_same), rfl, rfl, _, rfl, cF (k := inV (.str "rel") [.str "lfp", .str "pfp", .str "guess"]) (by decide +kernel) ?_⟩⟩
      have t2 := same_upd (o := .lst [V.str "lfp", .str "pfp", .str "guess"]) np2
      have u2 := t1.trans t2
      refine ⟨(by show 0 ≤ sizeLine; decide), fun r nr => ?_⟩
      have sr := same_upd (o := .lst []) nr
      exact q _ r _ (Same.trans (u2) sr) (Same.none (u2) nr) upd_same .nil
    | eq x y =>
      obtain rfl := none_of fit.2.2
      obtain ⟨v1, w1, rfl, e1, hx⟩ := DpAll.cons_inv hx
      obtain ⟨v2, w2, rfl, e2, hx⟩ := DpAll.cons_inv hx
      obtain rfl := DpAll.nil_inv hx
      refine ⟨_, rfl, a, _, _, _, rfl, rfl, hT, atI_nat (j := 0) rfl, rfl, _, rfl, cF (k := decide (V.str "eq" = V.str "not")) (by decide +kernel) ?_⟩
      refine ⟨_, rfl, a, _, _, _, rfl, rfl, hT, atI_nat (j := 0) rfl, rfl, _, rfl, cF (k := decide (V.str "eq" = V.str "and")) (by decide +kernel) ⟨_, rfl, a, _, _, _, rfl, rfl, hT, atI_nat (j := 0) rfl, rfl, _, rfl, cF (k := decide (V.str "eq" = V.str "or")) (by decide +kernel) ?_⟩⟩
      refine ⟨_, rfl, a, _, _, _, rfl, rfl, hT, atI_nat (j := 0) rfl, (by show 3 ≤ sizeLine; decide), fun p1 np1 => ⟨_, _, rfl, .inl (SqL.of upd_same), rfl, rfl, _, rfl, cF (k := inV (.str "eq") [.str "some", .str "all", .str "tc"]) (by decide +kernel) ?_⟩⟩
      have t1 := same_upd (o := .lst [V.str "some", .str "all", .str "tc"]) np1
      refine ⟨_, rfl, a, _, _, _, rfl, rfl, (Same.sqt t1 hT), atI_nat (j := 0) rfl, (by show 3 ≤ sizeLine; decide), fun p2 np2 => ⟨_, _, rfl, .inl (SqL.of upd_same), rfl, rfl, _, rfl, cF (k := inV (.str "eq") [.str "lfp", .str "pfp", .str "guess"]) (by decide +kernel) ?_⟩⟩
      have t2 := same_upd (o := .lst [V.str "lfp", .str "pfp", .str "guess"]) np2
      have u2 := t1.trans t2
      refine ⟨(by show 0 ≤ sizeLine; decide), fun r nr => ?_⟩
      have sr := same_upd (o := .lst []) nr
      exact q _ r _ (Same.trans (u2) sr) (Same.none (u2) nr) upd_same .nil
    | less x y =>
      obtain rfl := none_of fit.2.2
      obtain ⟨v1, w1, rfl, e1, hx⟩ := DpAll.cons_inv hx
      obtain ⟨v2, w2, rfl, e2, hx⟩ := DpAll.cons_inv hx
      obtain rfl := DpAll.nil_inv hx
      refine ⟨_, rfl, a, _, _, _, rfl, rfl, hT, atI_nat (j := 0) rfl, rfl, _, rfl, cF (k := decide (V.str "less" = V.str "not")) (by decide +kernel) ?_⟩
      refine ⟨_, rfl, a, _, _, _, rfl, rfl, hT, atI_nat (j := 0) rfl, rfl, _, rfl, cF (k := decide (V.str "less" = V.str "and")) (by decide +kernel) ⟨_, rfl, a, _, _, _, rfl, rfl, hT, atI_nat (j := 0) rfl, rfl, _, rfl, cF (k := decide (V.str "less" = V.str "or")) (by decide +kernel) ?_⟩⟩
      refine ⟨_, rfl, a, _, _, _, rfl, rfl, hT, atI_nat (j := 0) rfl, (by show 3 ≤ sizeLine; decide), fun p1 np1 => ⟨_, _, rfl, .inl (SqL.of upd_same), rfl, rfl, _, rfl, cF (k := inV (.str "less") [.str "some", .str "all", .str "tc"]) (by decide +kernel) ?_⟩⟩
      have t1 := same_upd (o := .lst [V.str "some", .str "all", .str "tc"]) np1
      refine ⟨_, rfl, a, _, _, _, rfl, rfl, (Same.sqt t1 hT), atI_nat (j := 0) rfl, (by show 3 ≤ sizeLine; decide), fun p2 np2 => ⟨_, _, rfl, .inl (SqL.of upd_same), rfl, rfl, _, rfl, cF (k := inV (.str "less") [.str "lfp", .str "pfp", .str "guess"]) (by decide +kernel) ?_⟩⟩
      have t2 := same_upd (o := .lst [V.str "lfp", .str "pfp", .str "guess"]) np2
      have u2 := t1.trans t2
      refine ⟨(by show 0 ≤ sizeLine; decide), fun r nr => ?_⟩
      have sr := same_upd (o := .lst []) nr
      exact q _ r _ (Same.trans (u2) sr) (Same.none (u2) nr) upd_same .nil
    | no =>
      obtain ⟨g, rfl⟩ := one_of fit
      obtain ⟨v1, w1, rfl, e1, hx⟩ := DpAll.cons_inv hx
      obtain rfl := DpAll.nil_inv hx
      refine ⟨_, rfl, a, _, _, _, rfl, rfl, hT, atI_nat (j := 0) rfl, rfl, _, rfl, cT (k := decide (V.str "not" = V.str "not")) (by decide +kernel) ?_⟩
      refine ⟨_, rfl, a, _, _, _, rfl, rfl, hT, atI_nat (j := 1) rfl, (by show 1 ≤ sizeLine; decide), fun r nr => ?_⟩
      have sr := same_upd (o := .lst [v1]) nr
      exact q _ r _ (Same.trans (Same.refl H) sr) (Same.none (Same.refl H) nr) upd_same (.cons (Dp.same (Same.trans (Same.refl H) sr) e1) .nil)
    | con =>
      obtain ⟨v1, w1, rfl, e1, hx⟩ := DpAll.cons_inv hx
      obtain rfl := DpAll.nil_inv hx
      refine ⟨_, rfl, a, _, _, _, rfl, rfl, hT, atI_nat (j := 0) rfl, rfl, _, rfl, cF (k := decide (V.str "and" = V.str "not")) (by decide +kernel) ?_⟩
      refine ⟨_, rfl, a, _, _, _, rfl, rfl, hT, atI_nat (j := 0) rfl, rfl, _, rfl, cT (k := decide (V.str "and" = V.str "and")) (by decide +kernel) (iteT ?_)⟩
      obtain ⟨b, ys, rfl, hb, hy⟩ := Dp.tup_inv e1
      refine ⟨_, rfl, a, _, _, _, rfl, rfl, hT, atI_nat (j := 1) rfl, b, _, rfl, .inr hb, fun r nr => ?_⟩
      have sr := same_upd (o := .lst ys) nr
      exact q _ r _ (Same.trans (Same.refl H) sr) (Same.none (Same.refl H) nr) upd_same (DpAll.same (Same.trans (Same.refl H) sr) hy)
    | dis =>
      obtain ⟨v1, w1, rfl, e1, hx⟩ := DpAll.cons_inv hx
      obtain rfl := DpAll.nil_inv hx
      refine ⟨_, rfl, a, _, _, _, rfl, rfl, hT, atI_nat (j := 0) rfl, rfl, _, rfl, cF (k := decide (V.str "or" = V.str "not")) (by decide +kernel) ?_⟩
      refine ⟨_, rfl, a, _, _, _, rfl, rfl, hT, atI_nat (j := 0) rfl, rfl, _, rfl, cF (k := decide (V.str "or" = V.str "and")) (by decide +kernel) ⟨_, rfl, a, _, _, _, rfl, rfl, hT, atI_nat (j := 0) rfl, rfl, _, rfl, cT (k := decide (V.str "or" = V.str "or")) (by decide +kernel) ?_⟩⟩
      obtain ⟨b, ys, rfl, hb, hy⟩ := Dp.tup_inv e1
      refine ⟨_, rfl, a, _, _, _, rfl, rfl, hT, atI_nat (j := 1) rfl, b, _, rfl, .inr hb, fun r nr => ?_⟩
      have sr := same_upd (o := .lst ys) nr
      exact q _ r _ (Same.trans (Same.refl H) sr) (Same.none (Same.refl H) nr) upd_same (DpAll.same (Same.trans (Same.refl H) sr) hy)
    | ex us =>
      obtain ⟨g, rfl⟩ := one_of fit.2
      obtain ⟨v1, w1, rfl, e1, hx⟩ := DpAll.cons_inv hx
      obtain ⟨v2, w2, rfl, e2, hx⟩ := DpAll.cons_inv hx
      obtain rfl := DpAll.nil_inv hx
      refine ⟨_, rfl, a, _, _, _, rfl, rfl, hT, atI_nat (j := 0) rfl, rfl, _, rfl, cF (k := decide (V.str "some" = V.str "not")) (by decide +kernel) ?_⟩
      refine ⟨_, rfl, a, _, _, _, rfl, rfl, hT, atI_nat (j := 0) rfl, rfl, _, rfl, cF (k := decide (V.str "some" = V.str "and")) (by decide +kernel) ⟨_, rfl, a, _, _, _, rfl, rfl, hT, atI_nat (j := 0) rfl, rfl, _, rfl, cF (k := decide (V.str "some" = V.str "or")) (by decide +kernel) ?_⟩⟩
      refine ⟨_, rfl, a, _, _, _, rfl, rfl, hT, atI_nat (j := 0) rfl, (by show 3 ≤ sizeLine; decide), fun p1 np1 => ⟨_, _, rfl, .inl (SqL.of upd_same), rfl, rfl, _, rfl, cT (k := inV (.str "some") [.str "some", .str "all", .str "tc"]) (by decide +kernel) ?_⟩⟩
      have t1 := same_upd (o := .lst [V.str "some", .str "all", .str "tc"]) np1
      refine ⟨_, rfl, a, _, _, _, rfl, rfl, (Same.sqt t1 hT), atI_nat (j := 2) rfl, (by show 1 ≤ sizeLine; decide), fun r nr => ?_⟩
      have sr := same_upd (o := .lst [v2]) nr
      exact q _ r _ (Same.trans (t1) sr) (Same.none (t1) nr) upd_same (.cons (Dp.same (Same.trans (t1) sr) e2) .nil)
    | al us =>
      obtain ⟨g, rfl⟩ := one_of fit.2
      obtain ⟨v1, w1, rfl, e1, hx⟩ := DpAll.cons_inv hx
      obtain ⟨v2, w2, rfl, e2, hx⟩ := DpAll.cons_inv hx
      obtain rfl := DpAll.nil_inv hx
      refine ⟨_, rfl, a, _, _, _, rfl, rfl, hT, atI_nat (j := 0) rfl, rfl, _, rfl, cF (k := decide (V.str "all" = V.str "not")) (by decide +kernel) ?_⟩
      refine ⟨_, rfl, a, _, _, _, rfl, rfl, hT, atI_nat (j := 0) rfl, rfl, _, rfl, cF (k := decide (V.str "all" = V.str "and")) (by decide +kernel) ⟨_, rfl, a, _, _, _, rfl, rfl, hT, atI_nat (j := 0) rfl, rfl, _, rfl, cF (k := decide (V.str "all" = V.str "or")) (by decide +kernel) ?_⟩⟩
      refine ⟨_, rfl, a, _, _, _, rfl, rfl, hT, atI_nat (j := 0) rfl, (by show 3 ≤ sizeLine; decide), fun p1 np1 => ⟨_, _, rfl, .inl (SqL.of upd_same), rfl, rfl, _, rfl, cT (k := inV (.str "all") [.str "some", .str "all", .str "tc"]) (by decide +kernel) ?_⟩⟩
      have t1 := same_upd (o := .lst [V.str "some", .str "all", .str "tc"]) np1
      refine ⟨_, rfl, a, _, _, _, rfl, rfl, (Same.sqt t1 hT), atI_nat (j := 2) rfl, (by show 1 ≤ sizeLine; decide), fun r nr => ?_⟩
      have sr := same_upd (o := .lst [v2]) nr
      exact q _ r _ (Same.trans (t1) sr) (Same.none (t1) nr) upd_same (.cons (Dp.same (Same.trans (t1) sr) e2) .nil)
    | lfp n us as =>
      obtain ⟨g, rfl⟩ := one_of fit.2.2.2.2
      obtain ⟨v1, w1, rfl, e1, hx⟩ := DpAll.cons_inv hx
      obtain ⟨v2, w2, rfl, e2, hx⟩ := DpAll.cons_inv hx
      obtain ⟨v3, w3, rfl, e3, hx⟩ := DpAll.cons_inv hx
      obtain ⟨v4, w4, rfl, e4, hx⟩ := DpAll.cons_inv hx
      obtain rfl := DpAll.nil_inv hx
      refine ⟨_, rfl, a, _, _, _, rfl, rfl, hT, atI_nat (j := 0) rfl, rfl, _, rfl, cF (k := decide (V.str "lfp" = V.str "not")) (by decide +kernel) ?_⟩
      refine ⟨_, rfl, a, _, _, _, rfl, rfl, hT, atI_nat (j := 0) rfl, rfl, _, rfl, cF (k := decide (V.str "lfp" = V.str "and")) (by decide +kernel) ⟨_, rfl, a, _, _, _, rfl, rfl, hT, atI_nat (j := 0) rfl, rfl, _, rfl, cF (k := decide (V.str "lfp" = V.str "or")) (by decide +kernel) ?_⟩⟩
      refine ⟨_, rfl, a, _, _, _, rfl, rfl, hT, atI_nat (j := 0) rfl, (by show 3 ≤ sizeLine; decide), fun p1 np1 => ⟨_, _, rfl, .inl (SqL.of upd_same), rfl, rfl, _, rfl, cF (k := inV (.str "lfp") [.str "some", .str "all", .str "tc"]) (by decide +kernel) ?_⟩⟩
      have t1 := same_upd (o := .lst [V.str "some", .str "all", .str "tc"]) np1
      refine ⟨_, rfl, a, _, _, _, rfl, rfl, (Same.sqt t1 hT), atI_nat (j := 0) rfl, (by show 3 ≤ sizeLine; decide), fun p2 np2 => ⟨_, _, rfl, .inl (SqL.of upd_same), rfl, rfl, _, rfl, cT (k := inV (.str "lfp") [.str "lfp", .str "pfp", .str "guess"]) (by decide +kernel) ?_⟩⟩
      have t2 := same_upd (o := .lst [V.str "lfp", .str "pfp", .str "guess"]) np2
      have u2 := t1.trans t2
      refine ⟨_, rfl, a, _, _, _, rfl, rfl, (Same.sqt u2 hT), atI_nat (j := 3) rfl, (by show 1 ≤ sizeLine; decide), fun r nr => ?_⟩
      have sr := same_upd (o := .lst [v3]) nr
      exact q _ r _ (Same.trans (u2) sr) (Same.none (u2) nr) upd_same (.cons (Dp.same (Same.trans (u2) sr) e3) .nil)
    | pfp n us as =>
      obtain ⟨g, rfl⟩ := one_of fit.2.2.2.2
      obtain ⟨v1, w1, rfl, e1, hx⟩ := DpAll.cons_inv hx
      obtain ⟨v2, w2, rfl, e2, hx⟩ := DpAll.cons_inv hx
      obtain ⟨v3, w3, rfl, e3, hx⟩ := DpAll.cons_inv hx
      obtain ⟨v4, w4, rfl, e4, hx⟩ := DpAll.cons_inv hx
      obtain rfl := DpAll.nil_inv hx
      refine ⟨_, rfl, a, _, _, _, rfl, rfl, hT, atI_nat (j := 0) rfl, rfl, _, rfl, cF (k := decide (V.str "pfp" = V.str "not")) (by decide +kernel) ?_⟩
      refine ⟨_, rfl, a, _, _, _, rfl, rfl, hT, atI_nat (j := 0) rfl, rfl, _, rfl, cF (k := decide (V.str "pfp" = V.str "and")) (by decide +kernel) ⟨_, rfl, a, _, _, _, rfl, rfl, hT, atI_nat (j := 0) rfl, rfl, _, rfl, cF (k := decide (V.str "pfp" = V.str "or")) (by decide +kernel) ?_⟩⟩
      refine ⟨_, rfl, a, _, _, _, rfl, rfl, hT, atI_nat (j := 0) rfl, (by show 3 ≤ sizeLine; decide), fun p1 np1 => ⟨_, _, rfl, .inl (SqL.of upd_same), rfl, rfl, _, rfl, cF (k := inV (.str "pfp") [.str "some", .str "all", .str "tc"]) (by decide +kernel) ?_⟩⟩
      have t1 := same_upd (o := .lst [V.str "some", .str "all", .str "tc"]) np1
      refine ⟨_, rfl, a, _, _, _, rfl, rfl, (Same.sqt t1 hT), atI_nat (j := 0) rfl, (by show 3 ≤ sizeLine; decide), fun p2 np2 => ⟨_, _, rfl, .inl (SqL.of upd_same), rfl, rfl, _, rfl, cT (k := inV (.str "pfp") [.str "lfp", .str "pfp", .str "guess"]) (by decide +kernel) ?_⟩⟩
      have t2 := same_upd (o := .lst [V.str "lfp", .str "pfp", .str "guess"]) np2
      have u2 := t1.trans t2
      refine ⟨_, rfl, a, _, _, _, rfl, rfl, (Same.sqt u2 hT), atI_nat (j := 3) rfl, (by show 1 ≤ sizeLine; decide), fun r nr => ?_⟩
      have sr := same_upd (o := .lst [v3]) nr
      exact q _ r _ (Same.trans (u2) sr) (Same.none (u2) nr) upd_same (.cons (Dp.same (Same.trans (u2) sr) e3) .nil)
    | tc us as =>
      obtain ⟨g, rfl⟩ := one_of fit.2.2.2.2.2
      obtain ⟨v1, w1, rfl, e1, hx⟩ := DpAll.cons_inv hx
      obtain ⟨v2, w2, rfl, e2, hx⟩ := DpAll.cons_inv hx
      obtain ⟨v3, w3, rfl, e3, hx⟩ := DpAll.cons_inv hx
      obtain rfl := DpAll.nil_inv hx
      refine ⟨_, rfl, a, _, _, _, rfl, rfl, hT, atI_nat (j := 0) rfl, rfl, _, rfl, cF (k := decide (V.str "tc" = V.str "not")) (by decide +kernel) ?_⟩
      refine ⟨_, rfl, a, _, _, _, rfl, rfl, hT, atI_nat (j := 0) rfl, rfl, _, rfl, cF (k := decide (V.str "tc" = V.str "and")) (by decide +kernel) ⟨_, rfl, a, _, _, _, rfl, rfl, hT, atI_nat (j := 0) rfl, rfl, _, rfl, cF (k := decide (V.str "tc" = V.str "or")) (by decide +kernel) ?_⟩⟩
      refine ⟨_, rfl, a, _, _, _, rfl, rfl, hT, atI_nat (j := 0) rfl, (by show 3 ≤ sizeLine; decide), fun p1 np1 => ⟨_, _, rfl, .inl (SqL.of upd_same), rfl, rfl, _, rfl, cT (k := inV (.str "tc") [.str "some", .str "all", .str "tc"]) (by decide +kernel) ?_⟩⟩
      have t1 := same_upd (o := .lst [V.str "some", .str "all", .str "tc"]) np1
      refine ⟨_, rfl, a, _, _, _, rfl, rfl, (Same.sqt t1 hT), atI_nat (j := 2) rfl, (by show 1 ≤ sizeLine; decide), fun r nr => ?_⟩
      have sr := same_upd (o := .lst [v2]) nr
      exact q _ r _ (Same.trans (t1) sr) (Same.none (t1) nr) upd_same (.cons (Dp.same (Same.trans (t1) sr) e2) .nil)
    | gs n k =>
      obtain ⟨g, rfl⟩ := one_of fit.2.2
      obtain ⟨v1, w1, rfl, e1, hx⟩ := DpAll.cons_inv hx
      obtain ⟨v2, w2, rfl, e2, hx⟩ := DpAll.cons_inv hx
      obtain ⟨v3, w3, rfl, e3, hx⟩ := DpAll.cons_inv hx
      obtain rfl := DpAll.nil_inv hx
      refine ⟨_, rfl, a, _, _, _, rfl, rfl, hT, atI_nat (j := 0) rfl, rfl, _, rfl, cF (k := decide (V.str "guess" = V.str "not")) (by decide +kernel) ?_⟩
      refine ⟨_, rfl, a, _, _, _, rfl, rfl, hT, atI_nat (j := 0) rfl, rfl, _, rfl, cF (k := decide (V.str "guess" = V.str "and")) (by decide +kernel) ⟨_, rfl, a, _, _, _, rfl, rfl, hT, atI_nat (j := 0) rfl, rfl, _, rfl, cF (k := decide (V.str "guess" = V.str "or")) (by decide +kernel) ?_⟩⟩
      refine ⟨_, rfl, a, _, _, _, rfl, rfl, hT, atI_nat (j := 0) rfl, (by show 3 ≤ sizeLine; decide), fun p1 np1 => ⟨_, _, rfl, .inl (SqL.of upd_same), rfl, rfl, _, rfl, cF (k := inV (.str "guess") [.str "some", .str "all", .str "tc"]) (by decide +kernel) ?_⟩⟩
      have t1 := same_upd (o := .lst [V.str "some", .str "all", .str "tc"]) np1
      refine ⟨_, rfl, a, _, _, _, rfl, rfl, (Same.sqt t1 hT), atI_nat (j := 0) rfl, (by show 3 ≤ sizeLine; decide), fun p2 np2 => ⟨_, _, rfl, .inl (SqL.of upd_same), rfl, rfl, _, rfl, cT (k := inV (.str "guess") [.str "lfp", .str "pfp", .str "guess"]) (by decide +kernel) ?_⟩⟩
      have t2 := same_upd (o := .lst [V.str "lfp", .str "pfp", .str "guess"]) np2
      have u2 := t1.trans t2
      refine ⟨_, rfl, a, _, _, _, rfl, rfl, (Same.sqt u2 hT), atI_nat (j := 3) rfl, (by show 1 ≤ sizeLine; decide), fun r nr => ?_⟩
      have sr := same_upd (o := .lst [v3]) nr
      exact q _ r _ (Same.trans (u2) sr) (Same.none (u2) nr) upd_same (.cons (Dp.same (Same.trans (u2) sr) e3) .nil)
theorem sc_law_bound_here : FnScope ["f"] ["f"] (defScope (top 74)) := ⟨rfl, rfl, rfl, by decide +kernel, rfl, by decide +kernel, by decide +kernel⟩
theorem has_law_bound_here (D : Def K mg "_law_bound_here" ["f"] (top 74)) (T : Txt mg) : Has P w K mg base 1 "_law_bound_here" ["f"] (spLook K fun f => tS f.hd.own) := D.has fun f fd F => by
  refine F.ok sc_law_bound_here (fun vs H Q E h => ?_) (fun cdv A outer s H vs Q E hr h => ?_)
  · obtain ⟨v, f, rfl, _⟩ := h; rfl
  · obtain ⟨v, f, rfl, dp, ok, q⟩ := h
    refine ⟨_, PSs.nox (pss_cons (ps_if (pt_cmpR op_in_seq (pe_ix ix_tup (pv 0) pe_int (fun _ _ => rfl)) (pe_lst (pa_cons pe_str (pa_cons pe_str (pa_cons pe_str pa_nil)))) (by rfl)) (pss_one (ps_ret (pe_ix ix_tup (pv 0) pe_int (fun _ _ => rfl)))) pss_nil) (pss_cons (ps_if (pt_cmpR op_in_seq (pe_ix ix_tup (pv 0) pe_int (fun _ _ => rfl)) (pe_lst (pa_cons pe_str (pa_cons pe_str pa_nil))) (by rfl)) (pss_one (ps_ret (pe_ix ix_tup (pv 0) pe_int (fun _ _ => rfl)))) pss_nil) (pss_one (ps_ret (pe_tup pa_nil))))), ?_⟩
    obtain ⟨h, ps⟩ := f
    rw [Fm.data_mk] at dp
    have fit := ok.hd_
    obtain ⟨a, xs, rfl, hT, hx⟩ := hd_inv dp
    clear dp
    cases h with
    | rel n as =>
      obtain rfl := none_of fit.2.2.2
      obtain ⟨v1, w1, rfl, e1, hx⟩ := DpAll.cons_inv hx
      obtain ⟨v2, w2, rfl, e2, hx⟩ := DpAll.cons_inv hx
      obtain rfl := DpAll.nil_inv hx
      refine ⟨_, rfl, a, _, _, _, rfl, rfl, hT, atI_nat (j := 0) rfl, (by show 3 ≤ sizeLine; decide), fun p1 np1 => ⟨_, _, rfl, .inl (SqL.of upd_same), rfl, rfl, _, rfl, cF (k := inV (.str "rel") [.str "some", .str "all", .str "tc"]) (by decide +kernel) ?_⟩⟩
      have t1 := same_upd (o := .lst [V.str "some", .str "all", .str "tc"]) np1
      refine ⟨_, rfl, a, _, _, _, rfl, rfl, (Same.sqt t1 hT), atI_nat (j := 0) rfl, (by show 2 ≤ sizeLine; decide), fun p2 np2 => ⟨_, _, rfl, .inl (SqL.of upd_same), rfl, rfl, _, rfl, cF (k := inV (.str "rel") [.str "lfp", .str "pfp"]) (by decide +kernel) ?_⟩⟩
      have t2 := same_upd (o := .lst [V.str "lfp", .str "pfp"]) np2
      have u2 := t1.trans t2
      refine ⟨(by show 0 ≤ sizeLine; decide), fun r nr => ?_⟩
      have sr := same_upd (o := .tup []) nr
      exact q _ _ (Same.trans (u2) sr) (tS_of (as := []) (.inl (.inl upd_same)))
    | eq x y =>
      obtain rfl := none_of fit.2.2
      obtain ⟨v1, w1, rfl, e1, hx⟩ := DpAll.cons_inv hx
      obtain ⟨v2, w2, rfl, e2, hx⟩ := DpAll.cons_inv hx
      obtain rfl := DpAll.nil_inv hx
      refine ⟨_, rfl, a, _, _, _, rfl, rfl, hT, atI_nat (j := 0) rfl, (by show 3 ≤ sizeLine; decide), fun p1 np1 => ⟨_, _, rfl, .inl (SqL.of upd_same), rfl, rfl, _, rfl, cF (k := inV (.str "eq") [.str "some", .str "all", .str "tc"]) (by decide +kernel) ?_⟩⟩
      have t1 := same_upd (o := .lst [V.str "some", .str "all", .str "tc"]) np1
      refine ⟨_, rfl, a, _, _, _, rfl, rfl, (Same.sqt t1 hT), atI_nat (j := 0) rfl, (by show 2 ≤ sizeLine; decide), fun p2 np2 => ⟨_, _, rfl, .inl (SqL.of upd_same), rfl, rfl, _, rfl, cF (k := inV (.str "eq") [.str "lfp", .str "pfp"]) (by decide +kernel) ?_⟩⟩
      have t2 := same_upd (o := .lst [V.str "lfp", .str "pfp"]) np2
      have u2 := t1.trans t2
      refine ⟨(by show 0 ≤ sizeLine; decide), fun r nr => ?_⟩
      have sr := same_upd (o := .tup []) nr
      exact q _ _ (Same.trans (u2) sr) (tS_of (as := []) (.inl (.inl upd_same)))
    | less x y =>
      obtain rfl := none_of fit.2.2
      obtain ⟨v1, w1, rfl, e1, hx⟩ := DpAll.cons_inv hx
      obtain ⟨v2, w2, rfl, e2, hx⟩ := DpAll.cons_inv hx
      obtain rfl := DpAll.nil_inv hx
      refine ⟨_, rfl, a, _, _, _, rfl, rfl, hT, atI_nat (j := 0) rfl, (by show 3 ≤ sizeLine; decide), fun p1 np1 => ⟨_, _, rfl, .inl (SqL.of upd_same), rfl, rfl, _, rfl, cF (k := inV (.str "less") [.str "some", .str "all", .str "tc"]) (by decide +kernel) ?_⟩⟩
      have t1 := same_upd (o := .lst [V.str "some", .str "all", .str "tc"]) np1
      refine ⟨_, rfl, a, _, _, _, rfl, rfl, (Same.sqt t1 hT), atI_nat (j := 0) rfl, (by show 2 ≤ sizeLine; decide), fun p2 np2 => ⟨_, _, rfl, .inl (SqL.of upd_same), rfl, rfl, _, rfl, cF (k := inV (.str "less") [.str "lfp", .str "pfp"]) (by decide +kernel) ?_⟩⟩
      have t2 := same_upd (o := .lst [V.str "lfp", .str "pfp"]) np2
      have u2 := t1.trans t2
      refine ⟨(by show 0 ≤ sizeLine; decide), fun r nr => ?_⟩
      have sr := same_upd (o := .tup []) nr
      exact q _ _ (Same.trans (u2) sr) (tS_of (as := []) (.inl (.inl upd_same)))
    | no =>
      obtain ⟨g, rfl⟩ := one_of fit
      obtain ⟨v1, w1, rfl, e1, hx⟩ := DpAll.cons_inv hx
      obtain rfl := DpAll.nil_inv hx
      refine ⟨_, rfl, a, _, _, _, rfl, rfl, hT, atI_nat (j := 0) rfl, (by show 3 ≤ sizeLine; decide), fun p1 np1 => ⟨_, _, rfl, .inl (SqL.of upd_same), rfl, rfl, _, rfl, cF (k := inV (.str "not") [.str "some", .str "all", .str "tc"]) (by decide +kernel) ?_⟩⟩
      have t1 := same_upd (o := .lst [V.str "some", .str "all", .str "tc"]) np1
      refine ⟨_, rfl, a, _, _, _, rfl, rfl, (Same.sqt t1 hT), atI_nat (j := 0) rfl, (by show 2 ≤ sizeLine; decide), fun p2 np2 => ⟨_, _, rfl, .inl (SqL.of upd_same), rfl, rfl, _, rfl, cF (k := inV (.str "not") [.str "lfp", .str "pfp"]) (by decide +kernel) ?_⟩⟩
      have t2 := same_upd (o := .lst [V.str "lfp", .str "pfp"]) np2
      have u2 := t1.trans t2
      refine ⟨(by show 0 ≤ sizeLine; decide), fun r nr => ?_⟩
      have sr := same_upd (o := .tup []) nr
      exact q _ _ (Same.trans (u2) sr) (tS_of (as := []) (.inl (.inl upd_same)))
    | con =>
      obtain ⟨v1, w1, rfl, e1, hx⟩ := DpAll.cons_inv hx
      obtain rfl := DpAll.nil_inv hx
      refine ⟨_, rfl, a, _, _, _, rfl, rfl, hT, atI_nat (j := 0) rfl, (by show 3 ≤ sizeLine; decide), fun p1 np1 => ⟨_, _, rfl, .inl (SqL.of upd_same), rfl, rfl, _, rfl, cF (k := inV (.str "and") [.str "some", .str "all", .str "tc"]) (by decide +kernel) ?_⟩⟩
      have t1 := same_upd (o := .lst [V.str "some", .str "all", .str "tc"]) np1
      refine ⟨_, rfl, a, _, _, _, rfl, rfl, (Same.sqt t1 hT), atI_nat (j := 0) rfl, (by show 2 ≤ sizeLine; decide), fun p2 np2 => ⟨_, _, rfl, .inl (SqL.of upd_same), rfl, rfl, _, rfl, cF (k := inV (.str "and") [.str "lfp", .str "pfp"]) (by decide +kernel) ?_⟩⟩
      have t2 := same_upd (o := .lst [V.str "lfp", .str "pfp"]) np2
      have u2 := t1.trans t2
      refine ⟨(by show 0 ≤ sizeLine; decide), fun r nr => ?_⟩
      have sr := same_upd (o := .tup []) nr
      exact q _ _ (Same.trans (u2) sr) (tS_of (as := []) (.inl (.inl upd_same)))
    | dis =>
      obtain ⟨v1, w1, rfl, e1, hx⟩ := DpAll.cons_inv hx
      obtain rfl := DpAll.nil_inv hx
      refine ⟨_, rfl, a, _, _, _, rfl, rfl, hT, atI_nat (j := 0) rfl, (by show 3 ≤ sizeLine; decide), fun p1 np1 => ⟨_, _, rfl, .inl (SqL.of upd_same), rfl, rfl, _, rfl, cF (k := inV (.str "or") [.str "some", .str "all", .str "tc"]) (by decide +kernel) ?_⟩⟩
      have t1 := same_upd (o := .lst [V.str "some", .str "all", .str "tc"]) np1
      refine ⟨_, rfl, a, _, _, _, rfl, rfl, (Same.sqt t1 hT), atI_nat (j := 0) rfl, (by show 2 ≤ sizeLine; decide), fun p2 np2 => ⟨_, _, rfl, .inl (SqL.of upd_same), rfl, rfl, _, rfl, cF (k := inV (.str "or") [.str "lfp", .str "pfp"]) (by decide +kernel) ?_⟩⟩
      have t2 := same_upd (o := .lst [V.str "lfp", .str "pfp"]) np2
      have u2 := t1.trans t2
      refine ⟨(by show 0 ≤ sizeLine; decide), fun r nr => ?_⟩
      have sr := same_upd (o := .tup []) nr
      exact q _ _ (Same.trans (u2) sr) (tS_of (as := []) (.inl (.inl upd_same)))
    | ex us =>
      obtain ⟨g, rfl⟩ := one_of fit.2
      obtain ⟨v1, w1, rfl, e1, hx⟩ := DpAll.cons_inv hx
      obtain ⟨v2, w2, rfl, e2, hx⟩ := DpAll.cons_inv hx
      obtain rfl := DpAll.nil_inv hx
      refine ⟨_, rfl, a, _, _, _, rfl, rfl, hT, atI_nat (j := 0) rfl, (by show 3 ≤ sizeLine; decide), fun p1 np1 => ⟨_, _, rfl, .inl (SqL.of upd_same), rfl, rfl, _, rfl, cT (k := inV (.str "some") [.str "some", .str "all", .str "tc"]) (by decide +kernel) ?_⟩⟩
      have t1 := same_upd (o := .lst [V.str "some", .str "all", .str "tc"]) np1
      refine ⟨_, rfl, a, _, _, _, rfl, rfl, (Same.sqt t1 hT), atI_nat (j := 1) rfl, ?_⟩
      exact q _ _ (t1) (Dp.same t1 e1)
    | al us =>
      obtain ⟨g, rfl⟩ := one_of fit.2
      obtain ⟨v1, w1, rfl, e1, hx⟩ := DpAll.cons_inv hx
      obtain ⟨v2, w2, rfl, e2, hx⟩ := DpAll.cons_inv hx
      obtain rfl := DpAll.nil_inv hx
      refine ⟨_, rfl, a, _, _, _, rfl, rfl, hT, atI_nat (j := 0) rfl, (by show 3 ≤ sizeLine; decide), fun p1 np1 => ⟨_, _, rfl, .inl (SqL.of upd_same), rfl, rfl, _, rfl, cT (k := inV (.str "all") [.str "some", .str "all", .str "tc"]) (by decide +kernel) ?_⟩⟩
      have t1 := same_upd (o := .lst [V.str "some", .str "all", .str "tc"]) np1
      refine ⟨_, rfl, a, _, _, _, rfl, rfl, (Same.sqt t1 hT), atI_nat (j := 1) rfl, ?_⟩
      exact q _ _ (t1) (Dp.same t1 e1)
    | lfp n us as =>
      obtain ⟨g, rfl⟩ := one_of fit.2.2.2.2
      obtain ⟨v1, w1, rfl, e1, hx⟩ := DpAll.cons_inv hx
      obtain ⟨v2, w2, rfl, e2, hx⟩ := DpAll.cons_inv hx
      obtain ⟨v3, w3, rfl, e3, hx⟩ := DpAll.cons_inv hx
      obtain ⟨v4, w4, rfl, e4, hx⟩ := DpAll.cons_inv hx
      obtain rfl := DpAll.nil_inv hx
      refine ⟨_, rfl, a, _, _, _, rfl, rfl, hT, atI_nat (j := 0) rfl, (by show 3 ≤ sizeLine; decide), fun p1 np1 => ⟨_, _, rfl, .inl (SqL.of upd_same), rfl, rfl, _, rfl, cF (k := inV (.str "lfp") [.str "some", .str "all", .str "tc"]) (by decide +kernel) ?_⟩⟩
      have t1 := same_upd (o := .lst [V.str "some", .str "all", .str "tc"]) np1
      refine ⟨_, rfl, a, _, _, _, rfl, rfl, (Same.sqt t1 hT), atI_nat (j := 0) rfl, (by show 2 ≤ sizeLine; decide), fun p2 np2 => ⟨_, _, rfl, .inl (SqL.of upd_same), rfl, rfl, _, rfl, cT (k := inV (.str "lfp") [.str "lfp", .str "pfp"]) (by decide +kernel) ?_⟩⟩
      have t2 := same_upd (o := .lst [V.str "lfp", .str "pfp"]) np2
      have u2 := t1.trans t2
      refine ⟨_, rfl, a, _, _, _, rfl, rfl, (Same.sqt u2 hT), atI_nat (j := 2) rfl, ?_⟩
      exact q _ _ (u2) (Dp.same u2 e2)
    | pfp n us as =>
      obtain ⟨g, rfl⟩ := one_of fit.2.2.2.2
      obtain ⟨v1, w1, rfl, e1, hx⟩ := DpAll.cons_inv hx
      obtain ⟨v2, w2, rfl, e2, hx⟩ := DpAll.cons_inv hx
      obtain ⟨v3, w3, rfl, e3, hx⟩ := DpAll.cons_inv hx
      obtain ⟨v4, w4, rfl, e4, hx⟩ := DpAll.cons_inv hx
      obtain rfl := DpAll.nil_inv hx
      refine ⟨_, rfl, a, _, _, _, rfl, rfl, hT, atI_nat (j := 0) rfl, (by show 3 ≤ sizeLine; decide), fun p1 np1 => ⟨_, _, rfl, .inl (SqL.of upd_same), rfl, rfl, _, rfl, cF (k := inV (.str "pfp") [.str "some", .str "all", .str "tc"]) (by decide +kernel) ?_⟩⟩
      have t1 := same_upd (o := .lst [V.str "some", .str "all", .str "tc"]) np1
      refine ⟨_, rfl, a, _, _, _, rfl, rfl, (Same.sqt t1 hT), atI_nat (j := 0) rfl, (by show 2 ≤ sizeLine; decide), fun p2 np2 => ⟨_, _, rfl, .inl (SqL.of upd_same), rfl, rfl, _, rfl, cT (k := inV (.str "pfp") [.str "lfp", .str "pfp"]) (by decide +kernel) ?_⟩⟩
      have t2 := same_upd (o := .lst [V.str "lfp", .str "pfp"]) np2
      have u2 := t1.trans t2
      refine ⟨_, rfl, a, _, _, _, rfl, rfl, (Same.sqt u2 hT), atI_nat (j := 2) rfl, ?_⟩
      exact q _ _ (u2) (Dp.same u2 e2)
    | tc us as =>
      obtain ⟨g, rfl⟩ := one_of fit.2.2.2.2.2
      obtain ⟨v1, w1, rfl, e1, hx⟩ := DpAll.cons_inv hx
      obtain ⟨v2, w2, rfl, e2, hx⟩ := DpAll.cons_inv hx
      obtain ⟨v3, w3, rfl, e3, hx⟩ := DpAll.cons_inv hx
      obtain rfl := DpAll.nil_inv hx
      refine ⟨_, rfl, a, _, _, _, rfl, rfl, hT, atI_nat (j := 0) rfl, (by show 3 ≤ sizeLine; decide), fun p1 np1 => ⟨_, _, rfl, .inl (SqL.of upd_same), rfl, rfl, _, rfl, cT (k := inV (.str "tc") [.str "some", .str "all", .str "tc"]) (by decide +kernel) ?_⟩⟩
      have t1 := same_upd (o := .lst [V.str "some", .str "all", .str "tc"]) np1
      refine ⟨_, rfl, a, _, _, _, rfl, rfl, (Same.sqt t1 hT), atI_nat (j := 1) rfl, ?_⟩
      exact q _ _ (t1) (Dp.same t1 e1)
    | gs n k =>
      obtain ⟨g, rfl⟩ := one_of fit.2.2
      obtain ⟨v1, w1, rfl, e1, hx⟩ := DpAll.cons_inv hx
      obtain ⟨v2, w2, rfl, e2, hx⟩ := DpAll.cons_inv hx
      obtain ⟨v3, w3, rfl, e3, hx⟩ := DpAll.cons_inv hx
      obtain rfl := DpAll.nil_inv hx
      refine ⟨_, rfl, a, _, _, _, rfl, rfl, hT, atI_nat (j := 0) rfl, (by show 3 ≤ sizeLine; decide), fun p1 np1 => ⟨_, _, rfl, .inl (SqL.of upd_same), rfl, rfl, _, rfl, cF (k := inV (.str "guess") [.str "some", .str "all", .str "tc"]) (by decide +kernel) ?_⟩⟩
      have t1 := same_upd (o := .lst [V.str "some", .str "all", .str "tc"]) np1
      refine ⟨_, rfl, a, _, _, _, rfl, rfl, (Same.sqt t1 hT), atI_nat (j := 0) rfl, (by show 2 ≤ sizeLine; decide), fun p2 np2 => ⟨_, _, rfl, .inl (SqL.of upd_same), rfl, rfl, _, rfl, cF (k := inV (.str "guess") [.str "lfp", .str "pfp"]) (by decide +kernel) ?_⟩⟩
      have t2 := same_upd (o := .lst [V.str "lfp", .str "pfp"]) np2
      have u2 := t1.trans t2
      refine ⟨(by show 0 ≤ sizeLine; decide), fun r nr => ?_⟩
      have sr := same_upd (o := .tup []) nr
      exact q _ _ (Same.trans (u2) sr) (tS_of (as := []) (.inl (.inl upd_same)))
theorem sc_law_own : FnScope ["f"] ["f"] (defScope (top 75)) := ⟨rfl, rfl, rfl, by decide +kernel, rfl, by decide +kernel, by decide +kernel⟩
theorem has_law_own (D : Def K mg "_law_own" ["f"] (top 75)) (T : Txt mg) : Has P w K mg base 1 "_law_own" ["f"] (spLook K fun f => tS f.hd.args) := D.has fun f fd F => by
  refine F.ok sc_law_own (fun vs H Q E h => ?_) (fun cdv A outer s H vs Q E hr h => ?_)
  · obtain ⟨v, f, rfl, _⟩ := h; rfl
  · obtain ⟨v, f, rfl, dp, ok, q⟩ := h
    refine ⟨_, PSs.nox (pss_cons (ps_if (pt_cmpR op_eq (pe_ix ix_tup (pv 0) pe_int (fun _ _ => rfl)) pe_str (nomark _)) (pss_one (ps_ret (pe_ix ix_tup (pv 0) pe_int (fun _ _ => rfl)))) pss_nil) (pss_cons (ps_if (PW.pt (pw_or (pt_cmpR op_eq (pe_ix ix_tup (pv 0) pe_int (fun _ _ => rfl)) pe_str (nomark _)) (pw_or1 (pt_cmpR op_eq (pe_ix ix_tup (pv 0) pe_int (fun _ _ => rfl)) pe_str (nomark _))))) (pss_one (ps_ret (pe_tup (pa_cons (pe_ix ix_tup (pv 0) pe_int (fun _ _ => rfl)) (pa_cons (pe_ix ix_tup (pv 0) pe_int (fun _ _ => rfl)) pa_nil))))) pss_nil) (pss_cons (ps_if (pt_cmpR op_eq (pe_ix ix_tup (pv 0) pe_int (fun _ _ => rfl)) pe_str (nomark _)) (pss_one (ps_ret (pe_ix ix_tup (pv 0) pe_int (fun _ _ => rfl)))) pss_nil) (pss_cons (ps_if (pt_cmpR op_in_seq (pe_ix ix_tup (pv 0) pe_int (fun _ _ => rfl)) (pe_lst (pa_cons pe_str (pa_cons pe_str pa_nil))) (by rfl)) (pss_one (ps_ret (pe_ix ix_tup (pv 0) pe_int (fun _ _ => rfl)))) pss_nil) (pss_one (ps_ret (pe_tup pa_nil))))))), ?_⟩
    obtain ⟨h, ps⟩ := f
    rw [Fm.data_mk] at dp
    have fit := ok.hd_
    obtain ⟨a, xs, rfl, hT, hx⟩ := hd_inv dp
    clear dp
    cases h with
    | rel n as =>
      obtain rfl := none_of fit.2.2.2
      obtain ⟨v1, w1, rfl, e1, hx⟩ := DpAll.cons_inv hx
      obtain ⟨v2, w2, rfl, e2, hx⟩ := DpAll.cons_inv hx
      obtain rfl := DpAll.nil_inv hx
      refine ⟨_, rfl, a, _, _, _, rfl, rfl, hT, atI_nat (j := 0) rfl, rfl, _, rfl, cT (k := decide (V.str "rel" = V.str "rel")) (by decide +kernel) ?_⟩
      refine ⟨_, rfl, a, _, _, _, rfl, rfl, hT, atI_nat (j := 2) rfl, ?_⟩
      exact q _ _ (Same.refl H) e2
    | eq x y =>
      obtain rfl := none_of fit.2.2
      obtain ⟨v1, w1, rfl, e1, hx⟩ := DpAll.cons_inv hx
      obtain ⟨v2, w2, rfl, e2, hx⟩ := DpAll.cons_inv hx
      obtain rfl := DpAll.nil_inv hx
      refine ⟨_, rfl, a, _, _, _, rfl, rfl, hT, atI_nat (j := 0) rfl, rfl, _, rfl, cF (k := decide (V.str "eq" = V.str "rel")) (by decide +kernel) ?_⟩
      refine ⟨_, rfl, a, _, _, _, rfl, rfl, hT, atI_nat (j := 0) rfl, rfl, _, rfl, cT (k := decide (V.str "eq" = V.str "eq")) (by decide +kernel) (iteT ?_)⟩
      obtain rfl := Dp.str_inv e1
      obtain rfl := Dp.str_inv e2
      refine ⟨_, rfl, a, _, _, _, rfl, rfl, hT, atI_nat (j := 1) rfl, ?_⟩
      refine ⟨_, rfl, a, _, _, _, rfl, rfl, hT, atI_nat (j := 2) rfl, (by show 2 ≤ sizeLine; decide), fun r nr => ?_⟩
      have sr := same_upd (o := .tup [.str x, .str y]) nr
      exact q _ _ (Same.trans (Same.refl H) sr) (tS_of (as := [x, y]) (.inl (.inl upd_same)))
    | less x y =>
      obtain rfl := none_of fit.2.2
      obtain ⟨v1, w1, rfl, e1, hx⟩ := DpAll.cons_inv hx
      obtain ⟨v2, w2, rfl, e2, hx⟩ := DpAll.cons_inv hx
      obtain rfl := DpAll.nil_inv hx
      refine ⟨_, rfl, a, _, _, _, rfl, rfl, hT, atI_nat (j := 0) rfl, rfl, _, rfl, cF (k := decide (V.str "less" = V.str "rel")) (by decide +kernel) ?_⟩
      refine ⟨_, rfl, a, _, _, _, rfl, rfl, hT, atI_nat (j := 0) rfl, rfl, _, rfl, cF (k := decide (V.str "less" = V.str "eq")) (by decide +kernel) ⟨_, rfl, a, _, _, _, rfl, rfl, hT, atI_nat (j := 0) rfl, rfl, _, rfl, cT (k := decide (V.str "less" = V.str "less")) (by decide +kernel) ?_⟩⟩
      obtain rfl := Dp.str_inv e1
      obtain rfl := Dp.str_inv e2
      refine ⟨_, rfl, a, _, _, _, rfl, rfl, hT, atI_nat (j := 1) rfl, ?_⟩
      refine ⟨_, rfl, a, _, _, _, rfl, rfl, hT, atI_nat (j := 2) rfl, (by show 2 ≤ sizeLine; decide), fun r nr => ?_⟩
      have sr := same_upd (o := .tup [.str x, .str y]) nr
      exact q _ _ (Same.trans (Same.refl H) sr) (tS_of (as := [x, y]) (.inl (.inl upd_same)))
    | no =>
      obtain ⟨g, rfl⟩ := one_of fit
      obtain ⟨v1, w1, rfl, e1, hx⟩ := DpAll.cons_inv hx
      obtain rfl := DpAll.nil_inv hx
      refine ⟨_, rfl, a, _, _, _, rfl, rfl, hT, atI_nat (j := 0) rfl, rfl, _, rfl, cF (k := decide (V.str "not" = V.str "rel")) (by decide +kernel) ?_⟩
      refine ⟨_, rfl, a, _, _, _, rfl, rfl, hT, atI_nat (j := 0) rfl, rfl, _, rfl, cF (k := decide (V.str "not" = V.str "eq")) (by decide +kernel) ⟨_, rfl, a, _, _, _, rfl, rfl, hT, atI_nat (j := 0) rfl, rfl, _, rfl, cF (k := decide (V.str "not" = V.str "less")) (by decide +kernel) ?_⟩⟩
      refine ⟨_, rfl, a, _, _, _, rfl, rfl, hT, atI_nat (j := 0) rfl, rfl, _, rfl, cF (k := decide (V.str "not" = V.str "tc")) (by decide +kernel) ?_⟩
      refine ⟨_, rfl, a, _, _, _, rfl, rfl, hT, atI_nat (j := 0) rfl, (by show 2 ≤ sizeLine; decide), fun p1 np1 => ⟨_, _, rfl, .inl (SqL.of upd_same), rfl, rfl, _, rfl, cF (k := inV (.str "not") [.str "lfp", .str "pfp"]) (by decide +kernel) ?_⟩⟩
      have t1 := same_upd (o := .lst [V.str "lfp", .str "pfp"]) np1
      refine ⟨(by show 0 ≤ sizeLine; decide), fun r nr => ?_⟩
      have sr := same_upd (o := .tup []) nr
      exact q _ _ (Same.trans (t1) sr) (tS_of (as := []) (.inl (.inl upd_same)))
    | con =>
      obtain ⟨v1, w1, rfl, e1, hx⟩ := DpAll.cons_inv hx
      obtain rfl := DpAll.nil_inv hx
      refine ⟨_, rfl, a, _, _, _, rfl, rfl, hT, atI_nat (j := 0) rfl, rfl, _, rfl, cF (k := decide (V.str "and" = V.str "rel")) (by decide +kernel) ?_⟩
      refine ⟨_, rfl, a, _, _, _, rfl, rfl, hT, atI_nat (j := 0) rfl, rfl, _, rfl, cF (k := decide (V.str "and" = V.str "eq")) (by decide +kernel) ⟨_, rfl, a, _, _, _, rfl, rfl, hT, atI_nat (j := 0) rfl, rfl, _, rfl, cF (k := decide (V.str "and" = V.str "less")) (by decide +kernel) ?_⟩⟩
      refine ⟨_, rfl, a, _, _, _, rfl, rfl, hT, atI_nat (j := 0) rfl, rfl, _, rfl, cF (k := decide (V.str "and" = V.str "tc")) (by decide +kernel) ?_⟩
      refine ⟨_, rfl, a, _, _, _, rfl, rfl, hT, atI_nat (j := 0) rfl, (by show 2 ≤ sizeLine; decide), fun p1 np1 => ⟨_, _, rfl, .inl (SqL.of upd_same), rfl, rfl, _, rfl, cF (k := inV (.str "and") [.str "lfp", .str "pfp"]) (by decide +kernel) ?_⟩⟩
      have t1 := same_upd (o := .lst [V.str "lfp", .str "pfp"]) np1
      refine ⟨(by show 0 ≤ sizeLine; decide), fun r nr => ?_⟩
      have sr := same_upd (o := .tup []) nr
      exact q _ _ (Same.trans (t1) sr) (tS_of (as := []) (.inl (.inl upd_same)))
    | dis =>
      obtain ⟨v1, w1, rfl, e1, hx⟩ := DpAll.cons_inv hx
      obtain rfl := DpAll.nil_inv hx
      refine ⟨_, rfl, a, _, _, _, rfl, rfl, hT, atI_nat (j := 0) rfl, rfl, _, rfl, cF (k := decide (V.str "or" = V.str "rel")) (by decide +kernel) ?_⟩
      refine ⟨_, rfl, a, _, _, _, rfl, rfl, hT, atI_nat (j := 0) rfl, rfl, _, rfl, cF (k := decide (V.str "or" = V.str "eq")) (by decide +kernel) ⟨_, rfl, a, _, _, _, rfl, rfl, hT, atI_nat (j := 0) rfl, rfl, _, rfl, cF (k := decide (V.str "or" = V.str "less")) (by decide +kernel) ?_⟩⟩
      refine ⟨_, rfl, a, _, _, _, rfl, rfl, hT, atI_nat (j := 0) rfl, rfl, _, rfl, cF (k := decide (V.str "or" = V.str "tc")) (by decide +kernel) ?_⟩
      refine ⟨_, rfl, a, _, _, _, rfl, rfl, hT, atI_nat (j := 0) rfl, (by show 2 ≤ sizeLine; decide), fun p1 np1 => ⟨_, _, rfl, .inl (SqL.of upd_same), rfl, rfl, _, rfl, cF (k := inV (.str "or") [.str "lfp", .str "pfp"]) (by decide +kernel) ?_⟩⟩
      have t1 := same_upd (o := .lst [V.str "lfp", .str "pfp"]) np1
      refine ⟨(by show 0 ≤ sizeLine; decide), fun r nr => ?_⟩
      have sr := same_upd (o := .tup []) nr
      exact q _ _ (Same.trans (t1) sr) (tS_of (as := []) (.inl (.inl upd_same)))
    | ex us =>
      obtain ⟨g, rfl⟩ := one_of fit.2
      obtain ⟨v1, w1, rfl, e1, hx⟩ := DpAll.cons_inv hx
      obtain ⟨v2, w2, rfl, e2, hx⟩ := DpAll.cons_inv hx
      obtain rfl := DpAll.nil_inv hx
      refine ⟨_, rfl, a, _, _, _, rfl, rfl, hT, atI_nat (j := 0) rfl, rfl, _, rfl, cF (k := decide (V.str "some" = V.str "rel")) (by decide +kernel) ?_⟩
      refine ⟨_, rfl, a, _, _, _, rfl, rfl, hT, atI_nat (j := 0) rfl, rfl, _, rfl, cF (k := decide (V.str "some" = V.str "eq")) (by decide +kernel) ⟨_, rfl, a, _, _, _, rfl, rfl, hT, atI_nat (j := 0) rfl, rfl, _, rfl, cF (k := decide (V.str "some" = V.str "less")) (by decide +kernel) ?_⟩⟩
      refine ⟨_, rfl, a, _, _, _, rfl, rfl, hT, atI_nat (j := 0) rfl, rfl, _, rfl, cF (k := decide (V.str "some" = V.str "tc")) (by decide +kernel) ?_⟩
      refine ⟨_, rfl, a, _, _, _, rfl, rfl, hT, atI_nat (j := 0) rfl, (by show 2 ≤ sizeLine; decide), fun p1 np1 => ⟨_, _, rfl, .inl (SqL.of upd_same), rfl, rfl, _, rfl, cF (k := inV (.str "some") [.str "lfp", .str "pfp"]) (by decide +kernel) ?_⟩⟩
      have t1 := same_upd (o := .lst [V.str "lfp", .str "pfp"]) np1
      refine ⟨(by show 0 ≤ sizeLine; decide), fun r nr => ?_⟩
      have sr := same_upd (o := .tup []) nr
      exact q _ _ (Same.trans (t1) sr) (tS_of (as := []) (.inl (.inl upd_same)))
    | al us =>
      obtain ⟨g, rfl⟩ := one_of fit.2
      obtain ⟨v1, w1, rfl, e1, hx⟩ := DpAll.cons_inv hx
      obtain ⟨v2, w2, rfl, e2, hx⟩ := DpAll.cons_inv hx
      obtain rfl := DpAll.nil_inv hx
      refine ⟨_, rfl, a, _, _, _, rfl, rfl, hT, atI_nat (j := 0) rfl, rfl, _, rfl, cF (k := decide (V.str "all" = V.str "rel")) (by decide +kernel) ?_⟩
      refine ⟨_, rfl, a, _, _, _, rfl, rfl, hT, atI_nat (j := 0) rfl, rfl, _, rfl, cF (k := decide (V.str "all" = V.str "eq")) (by decide +kernel) ⟨_, rfl, a, _, _, _, rfl, rfl, hT, atI_nat (j := 0) rfl, rfl, _, rfl, cF (k := decide (V.str "all" = V.str "less")) (by decide +kernel) ?_⟩⟩
      refine ⟨_, rfl, a, _, _, _, rfl, rfl, hT, atI_nat (j := 0) rfl, rfl, _, rfl, cF (k := decide (V.str "all" = V.str "tc")) (by decide +kernel) ?_⟩
      refine ⟨_, rfl, a, _, _, _, rfl, rfl, hT, atI_nat (j := 0) rfl, (by show 2 ≤ sizeLine; decide), fun p1 np1 => ⟨_, _, rfl, .inl (SqL.of upd_same), rfl, rfl, _, rfl, cF (k := inV (.str "all") [.str "lfp", .str "pfp"]) (by decide +kernel) ?_⟩⟩
      have t1 := same_upd (o := .lst [V.str "lfp", .str "pfp"]) np1
      refine ⟨(by show 0 ≤ sizeLine; decide), fun r nr => ?_⟩
      have sr := same_upd (o := .tup []) nr
      exact q _ _ (Same.trans (t1) sr) (tS_of (as := []) (.inl (.inl upd_same)))
    | lfp n us as =>
      obtain ⟨g, rfl⟩ := one_of fit.2.2.2.2
      obtain ⟨v1, w1, rfl, e1, hx⟩ := DpAll.cons_inv hx
      obtain ⟨v2, w2, rfl, e2, hx⟩ := DpAll.cons_inv hx
      obtain ⟨v3, w3, rfl, e3, hx⟩ := DpAll.cons_inv hx
      obtain ⟨v4, w4, rfl, e4, hx⟩ := DpAll.cons_inv hx
      obtain rfl := DpAll.nil_inv hx
      refine ⟨_, rfl, a, _, _, _, rfl, rfl, hT, atI_nat (j := 0) rfl, rfl, _, rfl, cF (k := decide (V.str "lfp" = V.str "rel")) (by decide +kernel) ?_⟩
      refine ⟨_, rfl, a, _, _, _, rfl, rfl, hT, atI_nat (j := 0) rfl, rfl, _, rfl, cF (k := decide (V.str "lfp" = V.str "eq")) (by decide +kernel) ⟨_, rfl, a, _, _, _, rfl, rfl, hT, atI_nat (j := 0) rfl, rfl, _, rfl, cF (k := decide (V.str "lfp" = V.str "less")) (by decide +kernel) ?_⟩⟩
      refine ⟨_, rfl, a, _, _, _, rfl, rfl, hT, atI_nat (j := 0) rfl, rfl, _, rfl, cF (k := decide (V.str "lfp" = V.str "tc")) (by decide +kernel) ?_⟩
      refine ⟨_, rfl, a, _, _, _, rfl, rfl, hT, atI_nat (j := 0) rfl, (by show 2 ≤ sizeLine; decide), fun p1 np1 => ⟨_, _, rfl, .inl (SqL.of upd_same), rfl, rfl, _, rfl, cT (k := inV (.str "lfp") [.str "lfp", .str "pfp"]) (by decide +kernel) ?_⟩⟩
      have t1 := same_upd (o := .lst [V.str "lfp", .str "pfp"]) np1
      refine ⟨_, rfl, a, _, _, _, rfl, rfl, (Same.sqt t1 hT), atI_nat (j := 4) rfl, ?_⟩
      exact q _ _ (t1) (Dp.same t1 e4)
    | pfp n us as =>
      obtain ⟨g, rfl⟩ := one_of fit.2.2.2.2
      obtain ⟨v1, w1, rfl, e1, hx⟩ := DpAll.cons_inv hx
      obtain ⟨v2, w2, rfl, e2, hx⟩ := DpAll.cons_inv hx
      obtain ⟨v3, w3, rfl, e3, hx⟩ := DpAll.cons_inv hx
      obtain ⟨v4, w4, rfl, e4, hx⟩ := DpAll.cons_inv hx
      obtain rfl := DpAll.nil_inv hx
      refine ⟨_, rfl, a, _, _, _, rfl, rfl, hT, atI_nat (j := 0) rfl, rfl, _, rfl, cF (k := decide (V.str "pfp" = V.str "rel")) (by decide +kernel) ?_⟩
      refine ⟨_, rfl, a, _, _, _, rfl, rfl, hT, atI_nat (j := 0) rfl, rfl, _, rfl, cF (k := decide (V.str "pfp" = V.str "eq")) (by decide +kernel) ⟨_, rfl, a, _, _, _, rfl, rfl, hT, atI_nat (j := 0) rfl, rfl, _, rfl, cF (k := decide (V.str "pfp" = V.str "less")) (by decide +kernel) ?_⟩⟩
      refine ⟨_, rfl, a, _, _, _, rfl, rfl, hT, atI_nat (j := 0) rfl, rfl, _, rfl, cF (k := decide (V.str "pfp" = V.str "tc")) (by decide +kernel) ?_⟩
      refine ⟨_, rfl, a, _, _, _, rfl, rfl, hT, atI_nat (j := 0) rfl, (by show 2 ≤ sizeLine; decide), fun p1 np1 => ⟨_, _, rfl, .inl (SqL.of upd_same), rfl, rfl, _, rfl, cT (k := inV (.str "pfp") [.str "lfp", .str "pfp"]) (by decide +kernel) ?_⟩⟩
      have t1 := same_upd (o := .lst [V.str "lfp", .str "pfp"]) np1
      refine ⟨_, rfl, a, _, _, _, rfl, rfl, (Same.sqt t1 hT), atI_nat (j := 4) rfl, ?_⟩
      exact q _ _ (t1) (Dp.same t1 e4)
    | tc us as =>
      obtain ⟨g, rfl⟩ := one_of fit.2.2.2.2.2
      obtain ⟨v1, w1, rfl, e1, hx⟩ := DpAll.cons_inv hx
      obtain ⟨v2, w2, rfl, e2, hx⟩ := DpAll.cons_inv hx
      obtain ⟨v3, w3, rfl, e3, hx⟩ := DpAll.cons_inv hx
      obtain rfl := DpAll.nil_inv hx
      refine ⟨_, rfl, a, _, _, _, rfl, rfl, hT, atI_nat (j := 0) rfl, rfl, _, rfl, cF (k := decide (V.str "tc" = V.str "rel")) (by decide +kernel) ?_⟩
      refine ⟨_, rfl, a, _, _, _, rfl, rfl, hT, atI_nat (j := 0) rfl, rfl, _, rfl, cF (k := decide (V.str "tc" = V.str "eq")) (by decide +kernel) ⟨_, rfl, a, _, _, _, rfl, rfl, hT, atI_nat (j := 0) rfl, rfl, _, rfl, cF (k := decide (V.str "tc" = V.str "less")) (by decide +kernel) ?_⟩⟩
      refine ⟨_, rfl, a, _, _, _, rfl, rfl, hT, atI_nat (j := 0) rfl, rfl, _, rfl, cT (k := decide (V.str "tc" = V.str "tc")) (by decide +kernel) ?_⟩
      refine ⟨_, rfl, a, _, _, _, rfl, rfl, hT, atI_nat (j := 3) rfl, ?_⟩
      exact q _ _ (Same.refl H) e3
    | gs n k =>
      obtain ⟨g, rfl⟩ := one_of fit.2.2
      obtain ⟨v1, w1, rfl, e1, hx⟩ := DpAll.cons_inv hx
      obtain ⟨v2, w2, rfl, e2, hx⟩ := DpAll.cons_inv hx
      obtain ⟨v3, w3, rfl, e3, hx⟩ := DpAll.cons_inv hx
      obtain rfl := DpAll.nil_inv hx
      refine ⟨_, rfl, a, _, _, _, rfl, rfl, hT, atI_nat (j := 0) rfl, rfl, _, rfl, cF (k := decide (V.str "guess" = V.str "rel")) (by decide +kernel) ?_⟩
      refine ⟨_, rfl, a, _, _, _, rfl, rfl, hT, atI_nat (j := 0) rfl, rfl, _, rfl, cF (k := decide (V.str "guess" = V.str "eq")) (by decide +kernel) ⟨_, rfl, a, _, _, _, rfl, rfl, hT, atI_nat (j := 0) rfl, rfl, _, rfl, cF (k := decide (V.str "guess" = V.str "less")) (by decide +kernel) ?_⟩⟩
      refine ⟨_, rfl, a, _, _, _, rfl, rfl, hT, atI_nat (j := 0) rfl, rfl, _, rfl, cF (k := decide (V.str "guess" = V.str "tc")) (by decide +kernel) ?_⟩
      refine ⟨_, rfl, a, _, _, _, rfl, rfl, hT, atI_nat (j := 0) rfl, (by show 2 ≤ sizeLine; decide), fun p1 np1 => ⟨_, _, rfl, .inl (SqL.of upd_same), rfl, rfl, _, rfl, cF (k := inV (.str "guess") [.str "lfp", .str "pfp"]) (by decide +kernel) ?_⟩⟩
      have t1 := same_upd (o := .lst [V.str "lfp", .str "pfp"]) np1
      refine ⟨(by show 0 ≤ sizeLine; decide), fun r nr => ?_⟩
      have sr := same_upd (o := .tup []) nr
      exact q _ _ (Same.trans (t1) sr) (tS_of (as := []) (.inl (.inl upd_same)))
end
/-! ### free variables -/
def frStep (h : Hd) (xs : List (List Str)) : List Str := (xs.flatten.filter fun x => !decide (x ∈ h.own)) ++ h.args
def Fm.frees : Fm → List Str := Fm.fold frStep
theorem Fm.frees_mem {h : Hd} {ps : List Fm} {x : Str} : x ∈ (Fm.mk h ps).frees ↔ (∃ g, g ∈ ps ∧ x ∈ g.frees ∧ x ∉ h.own) ∨ x ∈ h.args := by
  have e : (Fm.mk h ps).frees = frStep h (ps.map Fm.frees) := Fm.fold_mk frStep h ps
  rw [e]
  unfold frStep
  rw [List.mem_append, List.mem_filter, List.mem_flatten]
  constructor
  · rintro (⟨⟨l, hl, hx⟩, ho⟩ | ha)
    · obtain ⟨g, hg, rfl⟩ := List.mem_map.mp hl
      exact .inl ⟨g, hg, hx, by simpa using ho⟩
    · exact .inr ha
  · rintro (⟨g, hg, hx, ho⟩ | ha)
    · exact .inl ⟨⟨_, List.mem_map.mpr ⟨g, hg, rfl⟩, hx⟩, by simpa using ho⟩
    · exact .inr ha
theorem frees_vars : ∀ (f : Fm), ∀ x, x ∈ f.frees → x ∈ f.vars := Fm.ind fun h ps ih x hx => by
  rw [Fm.vars_mk]
  rcases Fm.frees_mem.mp hx with ⟨g, hg, hx, _⟩ | ha
  · exact List.mem_append_right _ (List.mem_flatten.mpr ⟨_, List.mem_map.mpr ⟨g, hg, rfl⟩, ih g hg x hx⟩)
  · exact List.mem_append_left _ (List.mem_append_right _ ha)
/-- few are free, also in each formula in it -/
inductive Fr20 : Fm → Prop
  | mk {h : Hd} {ps : List Fm} (a : ∃ l : List Str, l.length ≤ 20 ∧ ∀ x, x ∈ (Fm.mk h ps).frees → x ∈ l) (b : ∀ p, p ∈ ps → Fr20 p) : Fr20 (.mk h ps)
theorem Fr20.here {f : Fm} (k : Fr20 f) : ∃ l : List Str, l.length ≤ 20 ∧ ∀ x, x ∈ f.frees → x ∈ l := by cases k with | mk a _ => exact a
theorem Fr20.part {h : Hd} {ps : List Fm} (k : Fr20 (.mk h ps)) {p : Fm} (hp : p ∈ ps) : Fr20 p := by cases k with | mk _ b => exact b p hp
theorem Occ.fr : ∀ (f : Fm) {pool : List Str}, Occ pool f → pool.length ≤ 20 → Fr20 f := Fm.ind (P := fun f => ∀ {pool : List Str}, Occ pool f → pool.length ≤ 20 → Fr20 f) fun h ps ih pool o l =>
  .mk ⟨pool, l, fun x hx => o.vs x (frees_vars _ x hx)⟩ fun p hp => ih p hp (o.part hp) l
/-! texts in order -/
def leS (a b : Str) : Prop := a.cps.toList ≤ b.cps.toList
theorem leS_of {a b : Str} (h : ltCps b.cps.toList a.cps.toList = false) : leS a b := by
  rw [ltCps_eq] at h
  exact List.not_lt.mp (of_decide_eq_false h)
theorem leS_trans {a b c : Str} (h1 : leS a b) (h2 : leS b c) : leS a c := List.le_trans h1 h2
theorem leS_anti {a b : Str} (h1 : leS a b) (h2 : leS b a) : a = b := by
  have e : a.cps.toList = b.cps.toList := List.le_antisymm h1 h2
  obtain ⟨x⟩ := a
  obtain ⟨y⟩ := b
  have e2 : x = y := Array.toList_inj.mp e
  rw [e2]
theorem rising_pw : ∀ (p : Str) (l : List Str), risingS p l = true → (∀ x, x ∈ l → leS p x) ∧ l.Pairwise leS
  | p, [], _ => ⟨(fun x hx => by cases hx), List.Pairwise.nil⟩
  | p, x :: r, h => by
    have h2 : (!ltCps x.cps.toList p.cps.toList && risingS x r) = true := h
    obtain ⟨a, b⟩ := Bool.and_eq_true_iff.mp h2
    have px : leS p x := leS_of (by simpa using a)
    obtain ⟨c, d⟩ := rising_pw x r b
    refine ⟨fun y hy => ?_, List.pairwise_cons.mpr ⟨c, d⟩⟩
    rcases List.mem_cons.mp hy with rfl | hy
    · exact px
    · exact leS_trans px (c y hy)
theorem sorted_pw {l : List Str} (h : sortedS l = true) : l.Pairwise leS := by
  cases l with
  | nil => exact .nil
  | cons p r =>
    obtain ⟨a, b⟩ := rising_pw p r h
    exact List.pairwise_cons.mpr ⟨a, b⟩
theorem pw_uniq : ∀ (l m : List Str), l.Pairwise leS → m.Pairwise leS → l.Perm m → l = m
  | [], m, _, _, p => (List.nil_perm.mp p).symm
  | x :: l, [], _, _, p => by have := p.length_eq; cases this
  | x :: l, y :: m, hl, hm, p => by
    obtain ⟨a, b⟩ := List.pairwise_cons.mp hl
    obtain ⟨c, d⟩ := List.pairwise_cons.mp hm
    have e : x = y := by
      rcases List.mem_cons.mp (p.mem_iff.mp (List.mem_cons_self ..)) with e | hx
      · exact e
      · rcases List.mem_cons.mp (p.mem_iff.mpr (List.mem_cons_self ..)) with e | hy
        · exact e.symm
        · exact leS_anti (a y hy) (c x hx)
    subst e
    rw [pw_uniq l m b d p.cons_inv]
/-- ss: the different ones of xs in order -/
structure SetOf (ss xs : List Str) : Prop where
  nd : ss.Nodup
  so : sortedS ss = true
  mem : ∀ x, x ∈ ss ↔ x ∈ xs
theorem SetOf.uniq {ss tt xs : List Str} (a : SetOf ss xs) (b : SetOf tt xs) : ss = tt :=
  pw_uniq ss tt (sorted_pw a.so) (sorted_pw b.so) ((List.perm_ext_iff_of_nodup a.nd b.nd).mpr fun x => (a.mem x).trans (b.mem x).symm)
theorem inV_str {z : Str} : ∀ {ns : List Str}, inV (.str z) (ns.map V.str) = decide (z ∈ ns)
  | [] => by simp [inV]
  | n :: ns => by
    have ih := inV_str (z := z) (ns := ns)
    unfold inV at ih ⊢
    rw [List.map_cons, List.any_cons, ih]
    show ((n == z) || _) = _
    by_cases e : n = z
    · subst e; simp
    · have e2 : z ≠ n := fun z => e z.symm
      simp [e, e2]
def spFrees (K : PySem.W.Frag) (n : Nat) : Sp := fun vs H Q _ => ∃ (v : V) (f : Fm), vs = [v] ∧ Dp K H v f.data ∧ f.Ok ∧ Fr20 f ∧ f.dep ≤ n ∧
  ∀ (H' : Hp) (r : Addr) (ss : List Str), Same H H' → H r = none → H' r = some (.lst (ss.map V.str)) → SetOf ss f.frees → Q (.ref r) H'
theorem args_len {h : Hd} {n : Nat} (k : h.Ok n) : h.args.length ≤ 8 := by
  cases h with
  | rel n as => exact Nat.le_trans k.2.1 (by decide)
  | eq x y => show 2 ≤ 8; decide
  | less x y => show 2 ≤ 8; decide
  | lfp n us as => show as.length ≤ 8; have h1 := k.2.2.1; have h2 := k.2.1.2.1; omega
  | pfp n us as => show as.length ≤ 8; have h1 := k.2.2.1; have h2 := k.2.1.2.1; omega
  | tc us as => show as.length ≤ 8; have h1 := k.2.2.2.1; have h2 := k.1; omega
  | _ => exact Nat.zero_le _
section
variable {P : Program} {w : World} {K : PySem.W.Frag} {mg : Str → Option Value} {base : Heap}
theorem sc_law_free : FnScope ["f", "loose", "part", "x", "k"] ["f"] (defScope (top 76)) := ⟨rfl, rfl, rfl, by decide +kernel, rfl, by decide +kernel, by decide +kernel⟩
theorem has_law_free (D : Def K mg "_law_free" ["f"] (top 76)) (T : Txt mg) (C1 : Has P w K mg base 1 "_law_parts" ["f"] (spParts K)) (C2 : Has P w K mg base 1 "_law_bound_here" ["f"] (spLook K fun f => tS f.hd.own)) (C3 : Has P w K mg base 1 "_law_own" ["f"] (spLook K fun f => tS f.hd.args)) :
    ∀ n : Nat, Has P w K mg base (2 + n) "_law_free" ["f"] (spFrees K n) := by
  obtain ⟨f1, fd1, G_law_parts, g_law_parts, k_law_parts, b_law_parts⟩ := C1
  obtain ⟨f2, fd2, G_law_bound_here, g_law_bound_here, k_law_bound_here, b_law_bound_here⟩ := C2
  obtain ⟨f3, fd3, G_law_own, g_law_own, k_law_own, b_law_own⟩ := C3
  intro n
  induction n with
  | zero =>
    refine D.has fun f fd F => F.ok sc_law_free (fun vs H Q E h => ?_) (fun cdv A outer s H vs Q E hr h => ?_)
    · obtain ⟨v, f, rfl, _⟩ := h; rfl
    · obtain ⟨v, f, rfl, _, _, _, h0, _⟩ := h
      have := dep_pos f
      omega
  | succ n ih =>
    obtain ⟨f4, fd4, G_law_free, g_law_free, k_law_free, b_law_free⟩ := ih
    refine D.has fun f fd F => F.ok sc_law_free (fun vs H Q E h => ?_) (fun cdv A outer s H vs Q E hr h => ?_)
    · obtain ⟨v, f, rfl, _⟩ := h; rfl
    · obtain ⟨v, f, rfl, dp, ok, oc, hn, q⟩ := h
      have R_law_parts : Room 1 _ := hr.mono (Nat.le_trans (by decide) (Nat.le_add_right 2 n))
      have R_law_bound_here : Room 1 _ := hr.mono (Nat.le_trans (by decide) (Nat.le_add_right 2 n))
      have R_law_own : Room 1 _ := hr.mono (Nat.le_trans (by decide) (Nat.le_add_right 2 n))
      have R_law_free : Room (2 + n) _ := hr
      refine ⟨_, PSs.nox (pss_cons (ps_set (i := 1) sc_law_free.nd rfl (Or.inr rfl) (pe_lst pa_nil)) (pss_cons (ps_for PassesOwn.never rfl (pi_list (pe_call G_law_parts R_law_parts (by rfl) g_law_parts k_law_parts b_law_parts .nil pass0 (pa_cons (pv 0) pa_nil))) (pg_name (i := 2) sc_law_free.nd rfl (Or.inl rfl)) (pss_one (ps_expr (pe_bm PySem.F.plainAttrs_list PySem.F.slot_list_extend PySem.F.type_list_extend mt_extend (pv 1) (pa_cons (pe_lc (own := [("x", 3)]) rfl sc_law_free.nd (pi_list (pe_call G_law_free R_law_free (by rfl) g_law_free k_law_free b_law_free .nil pass0 (pa_cons (pv 2) pa_nil))) (blkOk_by (N := ["f", "loose", "part", "x", "k"]) (sc := defScope (top 76)) (by decide +kernel)) (fun _ _ _ _ _ => (pg_name (i := 3) sc_law_free.nd rfl (Or.inl rfl))) (fun _ _ _ _ _ => (pts_one (PW.pt (pw_and (pt_cmpR (op_notIn_seqK (K := K) rfl) (pv 3) (pv 1) (by rfl)) (pw_and1 (pt_cmpR (op_notIn_seqK (K := K) rfl) (pv 3) (pe_call G_law_bound_here R_law_bound_here (by rfl) g_law_bound_here k_law_bound_here b_law_bound_here .nil pass0 (pa_cons (pv 0) pa_nil)) (by rfl))))))) (fun _ _ _ _ _ => (pv 3))) pa_nil))))) (pss_cons (ps_expr (pe_bm PySem.F.plainAttrs_list PySem.F.slot_list_extend PySem.F.type_list_extend mt_extend (pv 1) (pa_cons (pe_lc (own := [("x", 3)]) rfl sc_law_free.nd (pi_tup (pe_call G_law_own R_law_own (by rfl) g_law_own k_law_own b_law_own .nil pass0 (pa_cons (pv 0) pa_nil))) (blkOk_by (N := ["f", "loose", "part", "x", "k"]) (sc := defScope (top 76)) (by decide +kernel)) (fun _ _ _ _ _ => (pg_name (i := 3) sc_law_free.nd rfl (Or.inl rfl))) (fun _ _ _ _ _ => (pts_one (pt_cmpR (op_notIn_seqK (K := K) rfl) (pv 3) (pv 1) (by rfl)))) (fun _ _ _ _ _ => (pv 3))) pa_nil))) (pss_one (ps_ret (pe_callB cr_sortedS (by rfl) T.n_sorted (by decide +kernel) (pa_cons (pe_lc (own := [("k", 4)]) rfl sc_law_free.nd (pi_range1 (by rfl) T.n_range (pa_cons (pe_callB call_len_seq (by rfl) T.n_len PySem.boot_len (pa_cons (pv 1) pa_nil)) pa_nil)) (blkOk_by (N := ["f", "loose", "part", "x", "k"]) (sc := defScope (top 76)) (by decide +kernel)) (fun _ _ _ _ _ => (pg_name (i := 4) sc_law_free.nd rfl (Or.inl rfl))) (fun _ _ _ _ _ => (pts_one (pt_cmpR (op_notIn_seqK (K := K) rfl) (pe_ix (ix_listK (K := K) rfl) (pv 1) (pv 4) (fun _ _ => rfl)) (pe_slice (sl_listK (K := K) rfl) (pv 1) po_none (po_some (pv 4))) (by rfl)))) (fun _ _ _ _ _ => (pe_ix (ix_listK (K := K) rfl) (pv 1) (pv 4) (fun _ _ => rfl)))) pa_nil))))))), ?_⟩
      obtain ⟨h, ps⟩ := f
      have hdv : (Fm.mk h ps).hd = h := rfl
      obtain ⟨pool, hp20, subp⟩ := oc.here
      have hsz : ∀ m : Nat, m ≤ 900 → m ≤ sizeLine := fun m hm => Nat.le_of_lt (small1000 (by omega))
      -- loose = []
      refine ⟨Nat.zero_le _, fun c nc => ?_⟩
      have s0 := same_upd (o := .lst []) nc
      refine ⟨_, rfl, v, _, rfl, Dp.same s0 dp, ok, fun H1 r1 ys s1 nr1 hr1 d1 => ?_⟩
      have hc1 : H1 c = some (.lst (([] : List Str).map V.str)) := s1 _ _ upd_same
      have ncr1 : r1 ≠ c := fun z => by rw [z, upd_same] at nr1; cases nr1
      have s01 : Same H H1 := s0.trans s1
      have keepS : ∀ {H3 : Hp}, Kp c H1 H3 → Same H H3 := fun k b o e => k b o (s01 b o e) (ne_of_none e nc)
      refine ⟨r1, rfl, ⟨_, SqL.of hr1⟩, for_list (K := K) (a := r1) (xs := ys) (fun i σ H3 => ∃ (y2 : Option V) (lo : List Str), σ = [some v, some (.ref c), y2, none, none] ∧ Kp c H1 H3 ∧ H3 c = some (.lst (lo.map V.str)) ∧ lo.Nodup ∧ ∀ x, x ∈ lo ↔ ∃ g, g ∈ ps.take i ∧ x ∈ g.frees ∧ x ∉ h.own)
        ⟨none, [], rfl, .refl _ _, hc1, List.nodup_nil, fun x => by simp⟩ (fun i σ H3 _ ⟨_, _, _, k3, _⟩ => SqL.of (k3 _ _ hr1 ncr1)) ?_ ?_⟩
      · rintro i y σ H3 hi ⟨y2, lo, rfl, k3, hc3, ndl, ml⟩
        obtain ⟨dd, hd, dpy⟩ := DpAll.get' d1 hi
        obtain ⟨g, hg, rfl⟩ := get_map hd
        have mem := List.mem_of_getElem? hg
        have dl : g.dep < (Fm.mk h ps).dep := dep_part mem
        have lol : lo.length ≤ 20 := Nat.le_trans (sub_len lo pool ndl fun x hx => by
          obtain ⟨g2, hg2, hx2, ho2⟩ := (ml x).mp hx
          exact subp x (Fm.frees_mem.mpr (.inl ⟨g2, List.mem_of_mem_take hg2, hx2, ho2⟩))) hp20
        refine ⟨_, rfl, .inl ⟨rfl, _, SqL.of hc3⟩, _, rfl, y, g, rfl, Dp.kl (.kp k3 hc1) dpy g.noL, ok.part mem, oc.part mem, by omega, fun H5 r2 rr s5 nr2 hr2 so => ?_⟩
        have hc5 := s5 _ _ hc3
        have rrl : rr.length ≤ 20 := by
          obtain ⟨pool2, hp2, sub2⟩ := (oc.part mem).here
          exact Nat.le_trans (sub_len rr pool2 so.nd fun x hx => sub2 x ((so.mem x).mp hx)) hp2
        refine ⟨r2, rfl, ⟨_, SqL.of hr2⟩, fun L nL => ?_⟩
        refine lc_it (walk_list (K := K) (a := r2) (xs := rr.map V.str)) (fun j H6 => Same H5 H6 ∧ H6 L = some (.lst (((rr.take j).filter fun x => !decide (x ∈ lo) && !decide (x ∈ h.own)).map V.str))) ⟨same_upd nL, upd_same⟩ (fun j H6 _ ⟨s6, _⟩ => SqL.of (s6 _ _ hr2)) ?_ ?_
        · rintro j z H6 H6' hj ⟨s6, hL⟩ ⟨rfl, hz⟩
          obtain ⟨x, hx, rfl⟩ := get_map hz
          refine ⟨rfl, _, rfl, _, rfl, c, _, rfl, .inl (SqL.of (s6 _ _ hc5)), rfl, flat_strs _, _, rfl, ?_⟩
          have ein : inV (.str x) (lo.map V.str) = decide (x ∈ lo) := inV_str
          have ef := filter_snoc (p := fun x => !decide (x ∈ lo) && !decide (x ∈ h.own)) hx
          by_cases h1 : x ∈ lo
          · refine cF (k := !inV (.str x) (lo.map V.str)) (by rw [ein, decide_eq_true h1]; rfl) (iteF ⟨s6, ?_⟩)
            rw [show (if (!decide (x ∈ lo) && !decide (x ∈ h.own)) = true then [x] else []) = [] by simp [h1], List.append_nil] at ef
            rw [ef]; exact hL
          · refine cT (k := !inV (.str x) (lo.map V.str)) (by rw [ein, decide_eq_false h1]; rfl) ?_
            refine ⟨_, rfl, _, rfl, v, _, rfl, Dp.same ((keepS k3).trans (s5.trans s6)) dp, ok, fun H7 t7 s7 d7 => ?_⟩
            obtain ⟨t, rfl, ht⟩ := tS_inv d7
            refine ⟨t, _, rfl, .inr ht, rfl, flat_strs _, _, rfl, ?_⟩
            have eio : inV (.str x) ((Fm.mk h ps).hd.own.map V.str) = decide (x ∈ h.own) := inV_str
            by_cases h2 : x ∈ h.own
            · refine cF (k := !inV (.str x) ((Fm.mk h ps).hd.own.map V.str)) (by rw [eio, decide_eq_true h2]; rfl) ⟨s6.trans s7, ?_⟩
              rw [show (if (!decide (x ∈ lo) && !decide (x ∈ h.own)) = true then [x] else []) = [] by simp [h2], List.append_nil] at ef
              rw [ef]; exact s7 _ _ hL
            · refine cT (k := !inV (.str x) ((Fm.mk h ps).hd.own.map V.str)) (by rw [eio, decide_eq_false h2]; rfl) ⟨_, rfl, _, s7 _ _ hL, ?_, fun b o eb => ?_, ?_⟩
              · rw [List.length_map]
                have e2 := List.length_filter_le (fun x => !decide (x ∈ lo) && !decide (x ∈ h.own)) (rr.take j)
                have e3 := List.length_take_le' j rr
                exact small1000 (by omega)
              · rw [upd_ne (ne_of_none eb nL)]
                exact s7 _ _ (s6 _ _ eb)
              · rw [show (if (!decide (x ∈ lo) && !decide (x ∈ h.own)) = true then [x] else []) = [x] by simp [h1, h2]] at ef
                rw [ef, upd_same, List.map_append]
                rfl
        · rintro H6 ⟨s6, hL⟩
          rw [List.length_map, List.take_length] at hL
          have hc6 := s6 _ _ hc5
          refine ⟨c, L, _, _, rfl, rfl, hc6, hL, ?_, ?_⟩
          · rw [List.length_map, List.length_map]
            have e2 := List.length_filter_le (fun x => !decide (x ∈ lo) && !decide (x ∈ h.own)) rr
            exact hsz _ (by omega)
          · refine ⟨_, lo ++ rr.filter fun x => !decide (x ∈ lo) && !decide (x ∈ h.own), rfl, fun b o eb nb => ?_, ?_, ?_, fun x => ?_⟩
            · rw [upd_ne nb]
              exact s6 _ _ (s5 _ _ (k3 b o eb nb))
            · rw [upd_same, List.map_append]
            · refine List.nodup_append.mpr ⟨ndl, so.nd.filter _, fun a ha b hb e => ?_⟩
              subst e
              have := (List.mem_filter.mp hb).2
              simp [ha] at this
            · have hg : ps[i]? = some g := hg
              rw [List.take_add_one, hg, List.mem_append, ml x, List.mem_filter, so.mem]
              constructor
              · rintro (⟨g2, hg2, a, b⟩ | ⟨a, b⟩)
                · exact ⟨g2, List.mem_append_left _ hg2, a, b⟩
                · exact ⟨g, List.mem_append_right _ (List.mem_singleton.mpr rfl), a, by simpa using (Bool.and_eq_true_iff.mp b).2⟩
              · rintro ⟨g2, hg2, a, b⟩
                rcases List.mem_append.mp hg2 with hg2 | hg2
                · exact .inl ⟨g2, hg2, a, b⟩
                · have e2 : g2 = g := List.mem_singleton.mp hg2
                  subst e2
                  by_cases hl : x ∈ lo
                  · exact .inl ((ml x).mp hl)
                  · exact .inr ⟨a, by simp [hl, b]⟩
      · rintro σ H3 ⟨y2, lo, rfl, k3, hc3, ndl, ml⟩
        have eyl : ys.length = ps.length := by rw [DpAll.length d1, List.length_map]; rfl
        rw [List.take_of_length_le (show ps.length ≤ ys.length by omega)] at ml
        have lol : lo.length ≤ 20 := Nat.le_trans (sub_len lo pool ndl fun x hx => by
          obtain ⟨g2, hg2, hx2, ho2⟩ := (ml x).mp hx
          exact subp x (Fm.frees_mem.mpr (.inl ⟨g2, hg2, hx2, ho2⟩))) hp20
        have al : h.args.length ≤ 8 := args_len ok.hd_
        refine ⟨_, rfl, .inl ⟨rfl, _, SqL.of hc3⟩, _, rfl, v, _, rfl, Dp.same (keepS k3) dp, ok, fun H5 t5 s5 d5 => ?_⟩
        obtain ⟨t, rfl, ht⟩ := tS_inv d5
        have ht : SqT K H5 t (h.args.map V.str) := ht
        have hc5 := s5 _ _ hc3
        refine ⟨t, rfl, ⟨_, ht⟩, fun L nL => ?_⟩
        refine lc_it (walk_tup (K := K) (a := t) (xs := h.args.map V.str)) (fun j H6 => Same H5 H6 ∧ H6 L = some (.lst (((h.args.take j).filter fun x => !decide (x ∈ lo)).map V.str))) ⟨same_upd nL, upd_same⟩ (fun j H6 _ ⟨s6, _⟩ => Same.sqt s6 ht) ?_ ?_
        · rintro j z H6 H6' hj ⟨s6, hL⟩ ⟨rfl, hz⟩
          obtain ⟨x, hx, rfl⟩ := get_map hz
          refine ⟨rfl, _, rfl, _, rfl, c, _, rfl, .inl (SqL.of (s6 _ _ hc5)), rfl, flat_strs _, _, rfl, ?_⟩
          have ein : inV (.str x) (lo.map V.str) = decide (x ∈ lo) := inV_str
          have ef := filter_snoc (p := fun x => !decide (x ∈ lo)) hx
          by_cases h1 : x ∈ lo
          · refine cF (k := !inV (.str x) (lo.map V.str)) (by rw [ein, decide_eq_true h1]; rfl) ⟨s6, ?_⟩
            rw [show (if (!decide (x ∈ lo)) = true then [x] else []) = [] by simp [h1], List.append_nil] at ef
            rw [ef]; exact hL
          · refine cT (k := !inV (.str x) (lo.map V.str)) (by rw [ein, decide_eq_false h1]; rfl) ⟨_, rfl, _, hL, ?_, fun b o eb => ?_, ?_⟩
            · rw [List.length_map]
              have e2 := List.length_filter_le (fun x => !decide (x ∈ lo)) (h.args.take j)
              have e3 := List.length_take_le' j h.args
              exact small1000 (by omega)
            · rw [upd_ne (ne_of_none eb nL)]
              exact s6 _ _ eb
            · rw [show (if (!decide (x ∈ lo)) = true then [x] else []) = [x] by simp [h1]] at ef
              rw [ef, upd_same, List.map_append]
              rfl
        · rintro H6 ⟨s6, hL⟩
          rw [List.length_map, List.take_length] at hL
          have hc6 := s6 _ _ hc5
          have fl := List.length_filter_le (fun x => !decide (x ∈ lo)) h.args
          refine ⟨c, L, _, _, rfl, rfl, hc6, hL, ?_, ?_⟩
          · rw [List.length_map, List.length_map]
            exact hsz _ (by omega)
          · generalize hlo : lo ++ h.args.filter (fun x => !decide (x ∈ lo)) = lo2
            have l2 : lo2.length ≤ 30 := by rw [← hlo, List.length_append]; omega
            have m2 : ∀ x, x ∈ lo2 ↔ x ∈ (Fm.mk h ps).frees := fun x => by
              rw [← hlo, List.mem_append, List.mem_filter, Fm.frees_mem]
              constructor
              · rintro (a | ⟨a, _⟩)
                · exact .inl ((ml x).mp a)
                · exact .inr a
              · rintro (a | a)
                · exact .inl ((ml x).mpr a)
                · by_cases hl : x ∈ lo
                  · exact .inl hl
                  · exact .inr ⟨a, by simp [hl]⟩
            have em : lo.map V.str ++ (h.args.filter fun x => !decide (x ∈ lo)).map V.str = lo2.map V.str := by rw [← List.map_append, hlo]
            rw [em]
            have k36 : Kp c H1 (upd H6 c (.lst (lo2.map V.str))) := fun b o eb nb => by
              rw [upd_ne nb]
              exact s6 _ _ (s5 _ _ (k3 b o eb nb))
            have hc7 : (upd H6 c (.lst (lo2.map V.str))) c = some (.lst (lo2.map V.str)) := upd_same
            have sH7 := keepS k36
            revert hc7 sH7
            generalize upd H6 c (.lst (lo2.map V.str)) = H7
            intro hc7 sH7
            refine ⟨_, rfl, c, _, rfl, .inl (SqL.of hc7), (lo2.map V.str).length, rfl, by rw [List.length_map]; omega, by rw [List.length_map]; omega, fun M nM => ?_⟩
            refine lc_it walk_range (fun j H8 => Same H7 H8 ∧ ∃ acc : List Str, H8 M = some (.lst (acc.map V.str)) ∧ acc.Nodup ∧ (∀ x, x ∈ acc ↔ x ∈ lo2.take j) ∧ acc.length ≤ j) ⟨same_upd nM, [], upd_same, List.nodup_nil, fun x => by simp, Nat.le_refl _⟩ (fun _ _ _ _ => trivial) ?_ ?_
            · rintro j z H8 H8' hj ⟨s8, acc, hM, nda, ma, la⟩ ⟨rfl, ez⟩
              have ez : z = .int (j : Nat) := by rw [ez]; exact congrArg V.int (Int.zero_add _)
              subst ez
              rw [List.length_map] at hj
              obtain ⟨x, hx⟩ : ∃ x, lo2[j]? = some x := ⟨_, List.getElem?_eq_getElem hj⟩
              have hxv : (lo2.map V.str)[j]? = some (.str x) := by rw [List.getElem?_map, hx]; rfl
              have hc8 := s8 _ _ hc7
              refine ⟨rfl, _, rfl, _, rfl, c, _, _, _, rfl, rfl, SqL.of hc8, atI_nat hxv, ?_⟩
              refine ⟨_, rfl, _, rfl, _, rfl, c, _, rfl, SqL.of hc8, fun p np => ?_⟩
              have ecut : cutV (lo2.map V.str) none (some ((j : Nat) : Int)) = (lo2.take j).map V.str := by
                rw [cut_map (by rw [List.length_map]; omega) (by rw [List.length_map]; omega), List.map_take]
              rw [ecut]
              have sp := same_upd (o := .lst ((lo2.take j).map V.str)) np
              refine ⟨p, _, rfl, .inl (SqL.of upd_same), rfl, flat_strs _, _, rfl, ?_⟩
              have ein : inV (.str x) ((lo2.take j).map V.str) = decide (x ∈ lo2.take j) := inV_str
              have et : lo2.take (j + 1) = lo2.take j ++ [x] := by rw [List.take_add_one, hx]; rfl
              by_cases h1 : x ∈ lo2.take j
              · refine cF (k := !inV (.str x) ((lo2.take j).map V.str)) (by rw [ein, decide_eq_true h1]; rfl) ⟨s8.trans sp, acc, sp _ _ hM, nda, fun y => ?_, by omega⟩
                rw [ma, et, List.mem_append]
                exact ⟨.inl, fun o => o.elim id fun o => by rw [List.mem_singleton.mp o]; exact h1⟩
              · refine cT (k := !inV (.str x) ((lo2.take j).map V.str)) (by rw [ein, decide_eq_false h1]; rfl) ⟨_, rfl, _, rfl, c, _, _, _, rfl, rfl, SqL.of (sp _ _ hc8), atI_nat hxv, _, sp _ _ hM, ?_, fun b o eb => ?_, acc ++ [x], ?_, ?_, fun y => ?_, ?_⟩
                · rw [List.length_map]
                  exact small1000 (by omega)
                · rw [upd_ne (ne_of_none eb nM)]
                  exact sp _ _ (s8 _ _ eb)
                · rw [upd_same, List.map_append]; rfl
                · refine List.nodup_append.mpr ⟨nda, by simp, fun a ha b hb e => h1 ?_⟩
                  rw [← List.mem_singleton.mp hb, ← e]
                  exact (ma a).mp ha
                · rw [List.mem_append, ma, et, List.mem_append]
                · rw [List.length_append]
                  show acc.length + 1 ≤ j + 1
                  omega
            · rintro H8 ⟨s8, acc, hM, nda, ma, la⟩
              rw [List.length_map] at ma
              have ma : ∀ x, x ∈ acc ↔ x ∈ lo2 := fun x => by
                have e := ma x
                rw [show lo2.take ((lo2.length : Nat) : Int).toNat = lo2 from List.take_length] at e
                exact e
              refine ⟨M, acc, rfl, SqL.of hM, ?_, fun zz p perm so np => ?_⟩
              · rw [List.length_map] at la
                omega
              · have s9 := same_upd (o := .lst (zz.map V.str)) np
                exact q _ p zz ((sH7.trans s8).trans s9) (Same.none (sH7.trans s8) np) upd_same ⟨perm.nodup_iff.mpr nda, so, fun x => by rw [perm.mem_iff, ma, m2]⟩
end
/-! ### a dict that a call returned is locked for good, before one goes through it -/
def tFrz (t : TE) : TE := fun σ H Q =>
  t σ H fun x H1 => ∃ d u, H1 d = some u ∧ Mut (some u) ∧ ∀ od, Q x (upd H1 d (.frz od u))
theorem pe_frz {X : Cx} {e : Expr} {t : TE} (h : PE X e t) : PE X e (tFrz t) := ⟨fun pins s σ H Q I hw =>
  thn (h.run pins s σ H _ I hw) fun v s1 ⟨x, H1, I1, r, d, u, hd, mu, q⟩ => by
    obtain ⟨od, I2⟩ := I1.lock hd mu
    exact ⟨x, _, I2, r, q od⟩⟩
theorem sw_trueD {kx vx : Expr} {gs : List Comprehension} {scope : Scope} {pos py : Pos} {y : Str} {l : Nat} {env : Env} (a1 : env.scope.kind = .function) (a2 : env.scope.names.lookup y = some .local)
    (a3 : (py.line == pos.line) = true) (a4 : (scope.names.any fun (n, k) => n == y && (k == .local || k == .cell)) = false) : swapsWith (.DictComp kx vx gs scope pos) (some (.Name y py)) l env = pure true := by
  have b1 : env.kindOf y = some .local := a2
  have b2 : env.blockKind = .function := by
    unfold Env.blockKind
    rw [a1]
    rfl
  unfold swapsWith
  simp only [b1, b2, a4, Expr.pos, a3]
  rfl
section
variable {X : Cx}
theorem ps_setDc {i : Nat} {y : Str} {py : Pos} {kx vx tg iter : Expr} {ifs : List Expr} {scope : Scope} {own : List (Str × Nat)} {pos spos : Pos} {wi : TI} {g : TG} {tt : TT} {tk tv : TE}
    (hc : X.calm = true) (hN : X.N.Nodup) (hy : X.N[i]? = some y) (hyl : X.env.scope.names.lookup y = some .local)
    (hsw : swapsWith (.DictComp kx vx [⟨tg, iter, ifs, 0⟩] scope pos) (some (.Name y py)) spos.line X.env = pure true)
    (hi : PI X tg iter wi) (ok : BlkOk X.N X.env.scope scope own)
    (hg : ∀ (s : Shared) (H : Hp) (C : Addr) (cl : List (Str × Addr)) (fp : List Addr),
      PG (X.blk s H scope (compEnvC scope cl C X.env) fp) tg g)
    (ht : ∀ (s : Shared) (H : Hp) (C : Addr) (cl : List (Str × Addr)) (fp : List Addr),
      PTs (X.blk s H scope (compEnvC scope cl C X.env) fp) ifs tt)
    (hk : ∀ (s : Shared) (H : Hp) (C : Addr) (cl : List (Str × Addr)) (fp : List Addr),
      PE (X.blk s H scope (compEnvC scope cl C X.env) fp) kx tk)
    (he : ∀ (s : Shared) (H : Hp) (C : Addr) (cl : List (Str × Addr)) (fp : List Addr),
      PE (X.blk s H scope (compEnvC scope cl C X.env) fp) vx tv)
    (hs : ∀ x, foldedSetIterable iter X.env x = pure x := by intro _; rfl) :
    PS X (.Assign [.Name y py] (.DictComp kx vx [⟨tg, iter, ifs, 0⟩] scope pos) spos) (tAsg (tDc wi g tt tk tv (own.map (·.2))) (gName i)) := by
  refine ⟨fun pins s σ H D I hw => ?_⟩
  rw [exec_Assign_Name_used _ _ _ _ hsw]
  refine wpAny_bind (wpAny_standAt (wpAny_bind ?_))
  show wpAny _ X.A (do
    let _ ← comprehension (.DictComp kx vx [⟨tg, iter, ifs, 0⟩] scope pos) scope X.env (firstIterPos [⟨tg, iter, ifs, 0⟩] pos) newDict false (eval iter X.env) (some (assign (.Name y py) X.env))) _ _ s
  have hw : tDc wi g tt tk tv (own.map (·.2)) σ H (fun x H1 => gName i x σ H1 D.nx) := hw
  refine wpAny_bind (thn (dc_core (Qf := fun _ s' => SP X pins D .next s') hc hN I hi ok hg ht hk he hs hw fun L C s' m H' I' q hn f => ?_) fun _ s' z => wpAny_pure (wpAny_pure z))
  show wpAny _ _ (assign (.Name y py) X.env (.ref L)) _ _ _
  refine wpAny_assign_Name (store_ok2 (v := V.ref L) I' hN hy (.inl hyl) rfl (fun s2 I2 ⟨a, sb, ha⟩ => ?_) (.inr hyl))
  obtain ⟨g0, g1, g2, g3, g4, g5⟩ := f
  have cna : C ≠ a := by
    rcases ha with z | z
    · rw [z]
      exact g1
    · exact fun e => g4 y a z e.symm
  exact ⟨m, hn.sameBut sb cna, fun h3 sb3 => ⟨_, H', I2.turned (t' := s2.toks) (fun b o hb e => (sb3.2 b hb).trans e) g0 g1 g3 g4 g5, q⟩⟩
end
/-! ### the program's free variables -/
def encT (x : Str) : Key × V := (Sum.inr x, .bl true)
theorem keys_encT (l : List Str) : (l.map encT).map (·.1) = l.map Sum.inr := by rw [List.map_map]; rfl
theorem val_encT : ∀ {l : List Str} {x : Str}, valV (l.map encT) (Sum.inr x) = if x ∈ l then some (.bl true) else none
  | [], x => by simp [valV]
  | p :: l, x => by
    by_cases e : p = x
    · rw [List.map_cons, valV_pos (by show Sum.inr p = Sum.inr x; rw [e]), if_pos (by rw [e]; exact List.mem_cons_self ..)]
      rfl
    · rw [List.map_cons, valV_neg (by intro z; exact e (Sum.inr.inj z)), val_encT]
      have e2 : ¬ x = p := fun z => e z.symm
      simp [e2]
theorem put_encT {l : List Str} {x : Str} : ∃ m : List Str, putK (l.map encT) (Sum.inr x) (.bl true) = m.map encT ∧ (l.Nodup → m.Nodup) ∧ (∀ y, y ∈ m ↔ y ∈ l ∨ y = x) ∧ m.length ≤ l.length + 1 := by
  by_cases h : x ∈ l
  · refine ⟨l, ?_, id, fun y => ⟨.inl, fun o => o.elim id fun e => by rw [e]; exact h⟩, Nat.le_succ _⟩
    unfold putK
    rw [if_pos, List.map_map]
    · refine List.map_congr_left fun y _ => ?_
      show (if (encT y).1 = Sum.inr x then ((encT y).1, V.bl true) else encT y) = encT y
      split <;> rfl
    · rw [List.any_map]
      exact List.any_eq_true.mpr ⟨x, h, decide_eq_true rfl⟩
  · refine ⟨l ++ [x], ?_, fun nd => ?_, fun y => by simp, by rw [List.length_append]; exact Nat.le_refl _⟩
    · rw [putK_new _ (by rw [val_encT, if_neg h]), List.map_append]
      rfl
    · exact List.nodup_append.mpr ⟨nd, by simp, fun a ha b hb e => h (by rw [← List.mem_singleton.mp hb, ← e]; exact ha)⟩
def spFreeD (K : PySem.W.Frag) (n : Nat) : Sp := fun vs H Q _ => ∃ (v : V) (f : Fm), vs = [v] ∧ Dp K H v f.data ∧ f.Ok ∧ Fr20 f ∧ f.dep ≤ n ∧
  ∀ (H' : Hp) (r : Addr) (l : List Str), Same H H' → H r = none → H' r = some (.dK (l.map encT)) → l.Nodup → (∀ x, x ∈ l ↔ x ∈ f.frees) → Q (.ref r) H'
section
variable {P : Program} {w : World} {K : PySem.W.Frag} {mg : Str → Option Value} {base : Heap}
theorem sc_pfree : FnScope ["formula", "found", "part", "variable"] ["formula"] (defScope (top 51)) := ⟨rfl, rfl, rfl, by decide +kernel, rfl, by decide +kernel, by decide +kernel⟩
theorem has_pfree (D : Def K mg "_free" ["formula"] (top 51)) (T : Txt mg) (C1 : Has P w K mg base 1 "inner" ["formula"] (spInner K)) (C2 : Has P w K mg base 1 "own" ["formula"] (spOwn K)) (C3 : Has P w K mg base 1 "arguments" ["formula"] (spArgs K)) :
    ∀ n : Nat, Has P w K mg base (2 + n) "_free" ["formula"] (spFreeD K n) := by
  obtain ⟨f1, fd1, G_inner, g_inner, k_inner, b_inner⟩ := C1
  obtain ⟨f2, fd2, G_own, g_own, k_own, b_own⟩ := C2
  obtain ⟨f3, fd3, G_arguments, g_arguments, k_arguments, b_arguments⟩ := C3
  intro n
  induction n with
  | zero =>
    refine D.has fun f fd F => F.ok sc_pfree (fun vs H Q E h => ?_) (fun cdv A outer s H vs Q E hr h => ?_)
    · obtain ⟨v, f, rfl, _⟩ := h; rfl
    · obtain ⟨v, f, rfl, _, _, _, h0, _⟩ := h
      have := dep_pos f
      omega
  | succ n ih =>
    obtain ⟨f4, fd4, G_free, g_free, k_free, b_free⟩ := ih
    refine D.has fun f fd F => F.ok sc_pfree (fun vs H Q E h => ?_) (fun cdv A outer s H vs Q E hr h => ?_)
    · obtain ⟨v, f, rfl, _⟩ := h; rfl
    · obtain ⟨v, f, rfl, dp, ok, oc, hn, q⟩ := h
      have R_inner : Room 1 _ := hr.mono (Nat.le_trans (by decide) (Nat.le_add_right 2 n))
      have R_own : Room 1 _ := hr.mono (Nat.le_trans (by decide) (Nat.le_add_right 2 n))
      have R_arguments : Room 1 _ := hr.mono (Nat.le_trans (by decide) (Nat.le_add_right 2 n))
      have R_free : Room (2 + n) _ := hr
      refine ⟨_, PSs.nox (pss_cons (ps_setDc (i := 1) (own := [("variable", 3)]) rfl sc_pfree.nd rfl rfl (sw_trueD rfl rfl rfl (by decide +kernel)) (pi_tup (pe_call G_arguments R_arguments (by rfl) g_arguments k_arguments b_arguments .nil pass0 (pa_cons (pv 0) pa_nil))) (blkOk_by (N := ["formula", "found", "part", "variable"]) (sc := defScope (top 51)) (by decide +kernel)) (fun _ _ _ _ _ => (pg_name (i := 3) sc_pfree.nd rfl (Or.inl rfl))) (fun _ _ _ _ _ => pts_nil) (fun _ _ _ _ _ => (pv 3)) (fun _ _ _ _ _ => pe_bl)) (pss_cons (ps_for PassesOwn.never rfl (pi_tup (pe_call G_inner R_inner (by rfl) g_inner k_inner b_inner .nil pass0 (pa_cons (pv 0) pa_nil))) (pg_name (i := 2) sc_pfree.nd rfl (Or.inl rfl)) (pss_one (ps_for PassesOwn.never rfl (pi_keys (pe_frz (pe_call G_free R_free (by rfl) g_free k_free b_free .nil pass0 (pa_cons (pv 2) pa_nil)))) (pg_name (i := 3) sc_pfree.nd rfl (Or.inl rfl)) (pss_one (ps_if (pt_cmpR op_notIn_seq (pv 3) (pe_call G_own R_own (by rfl) g_own k_own b_own .nil pass0 (pa_cons (pv 0) pa_nil)) (by rfl)) (pss_one (ps_dput (hu_of hr) (pv 1) (pv 3) pe_bl rfl)) pss_nil))))) (pss_one (ps_ret (pv 1))))), ?_⟩
      obtain ⟨h, ps⟩ := f
      obtain ⟨pool, hp20, subp⟩ := oc.here
      have fit : h.Ok (ps.map Fm.data).length := by rw [List.length_map]; exact ok.hd_
      rw [Fm.data_mk] at dp
      have al : h.args.length ≤ 8 := args_len ok.hd_
      -- found
      refine ⟨_, rfl, v, h, _, rfl, dp, fit.fits, fun H1 t1 s1 d1 => ?_⟩
      obtain ⟨t, rfl, ht⟩ := tS_inv d1
      refine ⟨t, rfl, ⟨_, ht⟩, fun c nc => ?_⟩
      have nc0 : H c = none := Same.none s1 nc
      refine dc_tup (K := K) (a := t) (xs := h.args.map V.str) (fun i H2 => Same H1 H2 ∧ ∃ l : List Str, H2 c = some (.dK (l.map encT)) ∧ l.Nodup ∧ (∀ x, x ∈ l ↔ x ∈ h.args.take i) ∧ l.length ≤ i) ⟨same_upd nc, [], upd_same, List.nodup_nil, fun x => by simp, Nat.le_refl _⟩ (fun i H2 _ ⟨s2, _⟩ => Same.sqt s2 ht) ?_ ?_
      · rintro i z H2 hz ⟨s2, l, hc2, nd, ml, ll⟩
        obtain ⟨x, hx, rfl⟩ := get_map hz
        have hi : i < h.args.length := (List.getElem?_eq_some_iff.mp hx).1
        obtain ⟨m, em, ndm, mm, lm⟩ := put_encT (l := l) (x := x)
        refine ⟨rfl, _, rfl, _, Sum.inr x, rfl, hc2, ?_, fun b o eb => ?_, m, ?_, ndm nd, fun y => ?_, by omega⟩
        · rw [List.length_map]
          exact small1000 (by omega)
        · rw [upd_ne (ne_of_none eb nc)]
          exact s2 _ _ eb
        · rw [upd_same, em]
        · rw [mm, ml, List.take_add_one, hx, List.mem_append]
          simp
      · rintro H2 ⟨s2, l0, hc2, nd0, ml0, ll0⟩
        rw [List.length_map] at ll0 ml0
        rw [List.take_length] at ml0
        have s02 : Same H H2 := s1.trans s2
        have keepS : ∀ {H3 H4 : Hp}, Same H2 H3 → Kp c H3 H4 → Same H H4 := fun s k b o e => k b o (s b o (s02 b o e)) (ne_of_none e nc0)
        refine ⟨_, rfl, v, h, _, rfl, Dp.same s02 dp, fit.fits, fun H3 r s3 hr3 => ?_⟩
        obtain ⟨b, ys, rfl, hb, hy⟩ := Dp.tup_inv hr3
        have hc3 := s3 _ _ hc2
        have nq : NotSeq H3 c := ⟨_, hc3⟩
        refine ⟨b, rfl, ⟨_, hb⟩, for_tup (K := K) (a := b) (xs := ys) (fun i σ H4 => ∃ (y2 y3 : Option V) (l : List Str), σ = [some v, some (.ref c), y2, y3] ∧ Kp c H3 H4 ∧ H4 c = some (.dK (l.map encT)) ∧ l.Nodup ∧ ∀ x, x ∈ l ↔ (∃ g, g ∈ ps.take i ∧ x ∈ g.frees ∧ x ∉ h.own) ∨ x ∈ h.args)
          ⟨none, none, l0, rfl, .refl _ _, hc3, nd0, fun x => by rw [ml0]; simp⟩ (fun i σ H4 _ ⟨_, _, _, _, k4, _⟩ => k4.sqt' nq hb) ?_ ?_⟩
        · rintro i y σ H4 hi ⟨y2, y3, l, rfl, k4, hc4, nd, ml⟩
          obtain ⟨dd, hd, dpy⟩ := DpAll.get' hy hi
          obtain ⟨g, hg, rfl⟩ := get_map hd
          have mem := List.mem_of_getElem? hg
          have dl : g.dep < (Fm.mk h ps).dep := dep_part mem
          have sH4 : Same H H4 := keepS s3 k4
          refine ⟨_, rfl, y, g, rfl, Dp.kpD k4 nq dpy, ok.part mem, oc.part mem, by omega, fun H5 e l2 s5 ne he nd2 m2 => ?_⟩
          have nec : e ≠ c := fun z => by rw [z, hc4] at ne; cases ne
          refine ⟨e, .dK (l2.map encT), he, trivial, fun od => ?_⟩
          refine ⟨e, od, rfl, .inl ⟨_, upd_same, for_it walk_keys (fun j σ H6 => ∃ (y3 : Option V) (l' : List Str), σ = [some v, some (.ref c), some y, y3] ∧ H6 e = some (.frz od (.dK (l2.map encT))) ∧ (∀ b o, H4 b = some o → b ≠ c → H6 b = some o) ∧ H6 c = some (.dK (l'.map encT)) ∧ l'.Nodup ∧ ∀ x, x ∈ l' ↔ x ∈ l ∨ (x ∈ l2.take j ∧ x ∉ h.own))
            ⟨y3, l, rfl, upd_same, fun b o eb nb => by rw [upd_ne (ne_of_none eb ne)]; exact s5 _ _ eb, by rw [upd_ne nec.symm]; exact s5 _ _ hc4, nd, fun x => by simp⟩ (fun j σ H6 _ ⟨_, _, _, q1, _⟩ => q1) ?_ ?_⟩⟩
          · rintro j x σ H6 H7 hj ⟨y3, l', rfl, he6, k6, hc6, nd', ml'⟩ ⟨rfl, kk, vv, hkv, rfl⟩
            obtain ⟨p, hp, ep⟩ := get_map hkv
            have ek : kk = Sum.inr p := congrArg Prod.fst ep
            subst ek
            have tk : l2.take (j + 1) = l2.take j ++ [p] := by rw [List.take_add_one, hp]; rfl
            have l'20 : l'.length ≤ 20 := Nat.le_trans (sub_len l' pool nd' fun x hx => subp x (Fm.frees_mem.mpr (by
              rcases (ml' x).mp hx with z | ⟨z, zo⟩
              · rcases (ml x).mp z with ⟨g2, hg2, a, b⟩ | a
                · exact .inl ⟨g2, List.mem_of_mem_take hg2, a, b⟩
                · exact .inr a
              · exact .inl ⟨g, mem, (m2 x).mp (List.mem_of_mem_take z), zo⟩))) hp20
            have sH7 : Same H H7 := fun b o eb => k6 b o (sH4 b o eb) (ne_of_none eb nc0)
            refine ⟨_, rfl, _, rfl, v, h, _, rfl, Dp.same sH7 dp, fit.fits, fun H8 r8 s8 d8 => ?_⟩
            obtain ⟨t8, rfl, ht8⟩ := tS_inv d8
            refine ⟨t8, _, rfl, .inr ht8, rfl, flat_strs _, _, rfl, ?_⟩
            have eio : inV (.str p) (h.own.map V.str) = decide (p ∈ h.own) := inV_str
            by_cases ho : p ∈ h.own
            · refine cF (k := !inV (.str p) (h.own.map V.str)) (by rw [eio, decide_eq_true ho]; rfl) ⟨_, l', rfl, s8 _ _ he6, fun b o eb nb => s8 _ _ (k6 b o eb nb), s8 _ _ hc6, nd', fun x => ?_⟩
              rw [ml', tk, List.mem_append]
              constructor
              · rintro (a | ⟨a, b⟩)
                · exact .inl a
                · exact .inr ⟨.inl a, b⟩
              · rintro (a | ⟨a | a, b⟩)
                · exact .inl a
                · exact .inr ⟨a, b⟩
                · rw [List.mem_singleton.mp a] at b
                  exact absurd ho b
            · refine cT (k := !inV (.str p) (h.own.map V.str)) (by rw [eio, decide_eq_false ho]; rfl) ?_
              obtain ⟨m, em, ndm, mm, lm⟩ := put_encT (l := l') (x := p)
              refine ⟨_, rfl, _, rfl, c, _, rfl, DPut.k (k := Sum.inr p) (s8 _ _ hc6) (by rw [List.length_map]; exact small1000 (by omega)), ?_⟩
              rw [em]
              refine ⟨_, m, rfl, by rw [upd_ne nec]; exact s8 _ _ he6, fun b o eb nb => by rw [upd_ne nb]; exact s8 _ _ (k6 b o eb nb), upd_same, ndm nd', fun x => ?_⟩
              rw [mm, ml', tk, List.mem_append]
              constructor
              · rintro ((a | ⟨a, b⟩) | a)
                · exact .inl a
                · exact .inr ⟨.inl a, b⟩
                · rw [a]; exact .inr ⟨.inr (List.mem_singleton.mpr rfl), ho⟩
              · rintro (a | ⟨a | a, b⟩)
                · exact .inl (.inl a)
                · exact .inl (.inr ⟨a, b⟩)
                · exact .inr (List.mem_singleton.mp a)
          · rintro σ H6 ⟨y3, l', rfl, he6, k6, hc6, nd', ml'⟩
            refine ⟨_, _, l', rfl, fun b o eb nb => k6 b o (k4 b o eb nb) nb, hc6, nd', fun x => ?_⟩
            have hg : ps[i]? = some g := hg
            rw [ml', ml, List.take_of_length_le (show l2.length ≤ (l2.map encT).length by rw [List.length_map]; exact Nat.le_refl _), m2, List.take_add_one, hg]
            constructor
            · rintro ((⟨g2, hg2, a, b⟩ | a) | ⟨a, b⟩)
              · exact .inl ⟨g2, List.mem_append_left _ hg2, a, b⟩
              · exact .inr a
              · exact .inl ⟨g, List.mem_append_right _ (List.mem_singleton.mpr rfl), a, b⟩
            · rintro (⟨g2, hg2, a, b⟩ | a)
              · rcases List.mem_append.mp hg2 with hg2 | hg2
                · exact .inl (.inl ⟨g2, hg2, a, b⟩)
                · rw [List.mem_singleton.mp hg2] at a
                  exact .inr ⟨a, b⟩
              · exact .inl (.inr a)
        · rintro σ H4 ⟨y2, y3, l, rfl, k4, hc4, nd, ml⟩
          have eyl : ys.length = ps.length := by rw [DpAll.length hy, List.length_map]
          rw [List.take_of_length_le (show ps.length ≤ ys.length by omega)] at ml
          exact ⟨_, rfl, q H4 c l (keepS s3 k4) nc0 hc4 nd fun x => by rw [ml, Fm.frees_mem]⟩
end
/-! ### free, symbols -/
def spFreeL (K : PySem.W.Frag) : Sp := fun vs H Q _ => ∃ (v : V) (f : Fm), vs = [v] ∧ Dp K H v f.data ∧ f.Wf ∧ Fr20 f ∧
  ∀ (H' : Hp) (r : Addr) (ss : List Str), Same H H' → H' r = some (.lst (ss.map V.str)) → SetOf ss f.frees → Q (.ref r) H'
section
variable {P : Program} {w : World} {K : PySem.W.Frag} {mg : Str → Option Value} {base : Heap}
theorem sc_free1 : FnScope ["formula"] ["formula"] (defScope (top 52)) := ⟨rfl, rfl, rfl, by decide +kernel, rfl, by decide +kernel, by decide +kernel⟩
theorem has_free1 (D : Def K mg "free" ["formula"] (top 52)) (T : Txt mg) (C1 : Has P w K mg base 47 "check_formula" ["formula"] (spCheck K)) (C2 : ∀ n, Has P w K mg base (2 + n) "_free" ["formula"] (spFreeD K n)) : Has P w K mg base 48 "free" ["formula"] (spFreeL K) := D.has fun f fd F => by
  obtain ⟨f1, fd1, G_check_formula, g_check_formula, k_check_formula, b_check_formula⟩ := C1
  obtain ⟨f2, fd2, G_free, g_free, k_free, b_free⟩ := C2 40
  refine F.ok sc_free1 (fun vs H Q E h => ?_) (fun cdv A outer s H vs Q E hr h => ?_)
  · obtain ⟨v, f, rfl, _⟩ := h; rfl
  · obtain ⟨v, f, rfl, dp, wf, oc, q⟩ := h
    have R_check_formula : Room 47 _ := hr
    have R_free : Room (2 + 40) _ := hr.mono (by decide)
    refine ⟨_, PSs.nox (pss_cons (ps_expr (pe_call G_check_formula R_check_formula (by rfl) g_check_formula k_check_formula b_check_formula .nil pass0 (pa_cons (pv 0) pa_nil))) (pss_one (ps_ret (pe_callB (call_sortedD rfl) (by rfl) T.n_sorted (by decide +kernel) (pa_cons (pe_call G_free R_free (by rfl) g_free k_free b_free .nil pass0 (pa_cons (pv 0) pa_nil)) pa_nil))))), ?_⟩
    refine ⟨_, rfl, v, f, rfl, dp, wf, fun H1 r1 s1 _ => ?_⟩
    refine ⟨_, rfl, v, f, rfl, Dp.same s1 dp, wf.ok, oc, wf.dep, fun H2 d l s2 nd hd ndl ml => ?_⟩
    have l20 : l.length ≤ 20 := by
      obtain ⟨pool, hp, subp⟩ := oc.here
      exact Nat.le_trans (sub_len l pool ndl fun x hx => subp x ((ml x).mp hx)) hp
    refine ⟨d, l.map encT, l, rfl, Rd.of hd, keys_encT l, by omega, fun ys p pm so np => ?_⟩
    exact q _ p ys ((s1.trans s2).trans (same_upd np)) upd_same ⟨pm.nodup_iff.mpr ndl, so, fun x => by rw [pm.mem_iff, ml]⟩
end
section
variable {P : Program} {w : World} {K : PySem.W.Frag} {mg : Str → Option Value} {base : Heap}
/-! ### _law_equal of equal data -/
theorem ty_lst {H : Hp} {a : Addr} {xs : List V} (h : SqL K H a xs) : TyX K H (.ref a) (.type "list") := by
  rcases h with (h | ⟨o, h⟩) | ⟨o, its, n, hk, hc, _⟩
  · exact .base (.lst h)
  · exact .base (.frz h)
  · exact .kList hk hc
def Both (K : PySem.W.Frag) (H : Hp) (x y : V) (d : PyData) : Prop := Dp K H x d ∧ Dp K H y d
def wid : PyData → Nat
  | .list ts => ts.length
  | .tuple ts => ts.length
  | _ => 0
/-- nothing in it is longer than 1000 -/
inductive Thin : Nat → PyData → Prop
  | flat {n : Nat} {d : PyData} (h : (∃ z, d = .str z) ∨ (∃ i, d = .int i) ∨ ∃ b, d = .bool b) : Thin n d
  | tup {n : Nat} {ts : List PyData} (l : ts.length ≤ 1000) (h : ∀ t, t ∈ ts → Thin n t) : Thin (n + 1) (.tuple ts)
  | lst {n : Nat} {ts : List PyData} (l : ts.length ≤ 1000) (h : ∀ t, t ∈ ts → Thin n t) : Thin (n + 1) (.list ts)
def spEqD (K : PySem.W.Frag) (n : Nat) : Sp := fun vs H Q _ => ∃ (x y : V) (d : PyData), vs = [x, y] ∧ Dp K H x d ∧ Dp K H y d ∧ Thin n d ∧ Q (.bl true) H
def spAllD (K : PySem.W.Frag) (n : Nat) : Sp := fun vs H Q _ => ∃ (a b : Addr) (xs ys : List V) (ts : List PyData), vs = [.ref a, .ref b] ∧ ((SqL K H a xs ∧ SqL K H b ys) ∨ (SqT K H a xs ∧ SqT K H b ys)) ∧ DpAll K H xs ts ∧ DpAll K H ys ts ∧ ts.length ≤ 1000 ∧ (∀ t, t ∈ ts → Thin n t) ∧ Q (.bl true) H
theorem sc_all_equal : FnScope ["actual", "due", "k"] ["actual", "due"] (defScope (top 64)) := ⟨rfl, rfl, rfl, by decide +kernel, rfl, by decide +kernel, by decide +kernel⟩
theorem has_all_equal {n : Nat} (D : Def K mg "_law_all_equal" ["actual", "due"] (top 64)) (T : Txt mg) (C1 : Has P w K mg base (1 + 2 * n) "_law_equal" ["actual", "due"] (spEqD K n)) : Has P w K mg base (1 + 2 * n + 1) "_law_all_equal" ["actual", "due"] (spAllD K n) := D.has fun f fd F => by
  obtain ⟨f1, fd1, G_law_equal, g_law_equal, k_law_equal, b_law_equal⟩ := C1
  refine F.ok sc_all_equal (fun vs H Q E h => ?_) (fun cdv A outer s H vs Q E hr h => ?_)
  · obtain ⟨a, b, xs, ys, ts, rfl, _⟩ := h; rfl
  · obtain ⟨a, b, xs, ys, ts, rfl, hs, hx, hy, hl, th, q⟩ := h
    have R_law_equal : Room (1 + 2 * n) _ := hr
    refine ⟨_, PSs.nox (pss_cons (ps_for PassesOwn.never rfl (pi_range1 (by rfl) T.n_range (pa_cons (pe_callB call_len_seq (by rfl) T.n_len PySem.boot_len (pa_cons (pv 1) pa_nil)) pa_nil)) (pg_name (i := 2) sc_all_equal.nd rfl (Or.inl rfl)) (pss_one (ps_if (pt_not (pt_val (pe_call G_law_equal R_law_equal (by rfl) g_law_equal k_law_equal b_law_equal .nil pass0 (pa_cons (pe_ix (IxR.or ix_list ix_tup) (pv 0) (pv 2) (fun _ _ => rfl)) (pa_cons (pe_ix (IxR.or ix_list ix_tup) (pv 1) (pv 2) (fun _ _ => rfl)) pa_nil))))) pss_never pss_nil))) (pss_one (ps_ret pe_bl))), ?_⟩
    have lx := DpAll.length hx
    have ly := DpAll.length hy
    refine ⟨_, rfl, b, ys, rfl, hs.elim (fun z => .inl z.2) (fun z => .inr z.2), ys.length, rfl, by omega, by omega, for_range (n := ys.length) (fun i σ H2 => ∃ y2, σ = [some (.ref a), some (.ref b), y2] ∧ H2 = H) ⟨none, rfl, rfl⟩ ?_ ?_⟩
    · rintro i σ H2 hi ⟨y2, rfl, rfl⟩
      have it : i < ts.length := by omega
      obtain ⟨v1, hv1, d1⟩ := DpAll.get hx (List.getElem?_eq_getElem it)
      obtain ⟨v2, hv2, d2⟩ := DpAll.get hy (List.getElem?_eq_getElem it)
      have ei : (0 : Int) + (i : Nat) = (i : Nat) := Int.zero_add _
      rw [ei]
      have e1 := List.getElem_mem it
      rcases hs with ⟨s1, s2⟩ | ⟨s1, s2⟩
      · exact ⟨_, rfl, _, rfl, .inl ⟨a, xs, _, v1, rfl, rfl, s1, atI_nat hv1, _, rfl, _, rfl, .inl ⟨b, ys, _, v2, rfl, rfl, s2, atI_nat hv2, v1, v2, _, rfl, d1, d2, th _ e1, _, rfl, iteF ⟨_, rfl, rfl⟩⟩⟩⟩
      · exact ⟨_, rfl, _, rfl, .inr ⟨a, xs, _, v1, rfl, rfl, s1, atI_nat hv1, _, rfl, _, rfl, .inr ⟨b, ys, _, v2, rfl, rfl, s2, atI_nat hv2, v1, v2, _, rfl, d1, d2, th _ e1, _, rfl, iteF ⟨_, rfl, rfl⟩⟩⟩⟩
    · rintro σ H2 ⟨y2, rfl, rfl⟩
      exact q
theorem sc_equalD : FnScope ["actual", "due"] ["actual", "due"] (defScope (top 63)) := ⟨rfl, rfl, rfl, by decide +kernel, rfl, by decide +kernel, by decide +kernel⟩
theorem has_equalD0 (D : Def K mg "_law_equal" ["actual", "due"] (top 63)) (T : Txt mg) : Has P w K mg base 1 "_law_equal" ["actual", "due"] (spEqD K 0) := D.has fun f fd F => by
  refine F.ok sc_equalD (fun vs H Q E h => ?_) (fun cdv A outer s H vs Q E hr h => ?_)
  · obtain ⟨x, y, d, rfl, _⟩ := h; rfl
  · obtain ⟨x, y, d, rfl, dx, dy, th, q⟩ := h
    refine ⟨_, PSs.nox (pss_cons (ps_if (pt_val (pe_callB call_isi (by rfl) T.n_isinstance (by decide +kernel) (pa_cons (pv 1) (pa_cons (pe_bltn (v := .ty "list") (by rfl) T.n_list (by decide +kernel) rfl) pa_nil)))) pss_never pss_nil) (pss_cons (ps_if (pt_val (pe_callB call_isi (by rfl) T.n_isinstance (by decide +kernel) (pa_cons (pv 1) (pa_cons (pe_bltn (v := .ty "tuple") (by rfl) T.n_tuple (by decide +kernel) rfl) pa_nil)))) pss_never pss_nil) (pss_cons (ps_if (pt_val (pe_callB call_isi (by rfl) T.n_isinstance (by decide +kernel) (pa_cons (pv 1) (pa_cons (pe_bltn (v := .ty "bool") (by rfl) T.n_bool (by decide +kernel) rfl) pa_nil)))) (pss_one (ps_ret (pe_and (pe_callB call_isi (by rfl) T.n_isinstance (by decide +kernel) (pa_cons (pv 0) (pa_cons (pe_bltn (v := .ty "bool") (by rfl) T.n_bool (by decide +kernel) rfl) pa_nil))) (pe_one (pe_cmpR op_eq (pv 0) (pv 1) (nomark _)))))) pss_nil) (pss_cons (ps_if (pt_val (pe_callB call_isi (by rfl) T.n_isinstance (by decide +kernel) (pa_cons (pv 1) (pa_cons (pe_bltn (v := .ty "int") (by rfl) T.n_int (by decide +kernel) rfl) pa_nil)))) (pss_one (ps_ret (pe_and (pe_callB call_isi (by rfl) T.n_isinstance (by decide +kernel) (pa_cons (pv 0) (pa_cons (pe_bltn (v := .ty "int") (by rfl) T.n_int (by decide +kernel) rfl) pa_nil))) (pe_and (pe_not (pe_callB call_isi (by rfl) T.n_isinstance (by decide +kernel) (pa_cons (pv 0) (pa_cons (pe_bltn (v := .ty "bool") (by rfl) T.n_bool (by decide +kernel) rfl) pa_nil)))) (pe_one (pe_cmpR op_eq (pv 0) (pv 1) (nomark _))))))) pss_nil) (pss_cons (ps_if (pt_val (pe_callB call_isi (by rfl) T.n_isinstance (by decide +kernel) (pa_cons (pv 1) (pa_cons (pe_bltn (v := .ty "str") (by rfl) T.n_str (by decide +kernel) rfl) pa_nil)))) (pss_one (ps_ret (pe_and (pe_callB call_isi (by rfl) T.n_isinstance (by decide +kernel) (pa_cons (pv 0) (pa_cons (pe_bltn (v := .ty "str") (by rfl) T.n_str (by decide +kernel) rfl) pa_nil))) (pe_one (pe_cmpR op_eq (pv 0) (pv 1) (nomark _)))))) pss_nil) (pss_one (ps_ret (pe_cmpR op_isN (pv 0) pe_non (nomark _))))))))), ?_⟩
    cases th with
    | flat h =>
      rcases h with ⟨z, rfl⟩ | ⟨i, rfl⟩ | ⟨b, rfl⟩
      · obtain rfl := Dp.str_inv dx
        obtain rfl := Dp.str_inv dy
        refine isi_t rfl (.base (.str z)) (b := false) (by decide +kernel) (iteF ?_)
        refine isi_t rfl (.base (.str z)) (b := false) (by decide +kernel) (iteF ?_)
        refine isi_t rfl (.base (.str z)) (b := false) (by decide +kernel) (iteF ?_)
        refine isi_t rfl (.base (.str z)) (b := false) (by decide +kernel) (iteF ?_)
        refine isi_t rfl (.base (.str z)) (b := true) (by decide +kernel) (iteT ?_)
        refine isi_q rfl (.base (.str z)) (b := true) (by decide +kernel) ⟨_, rfl, iteT ⟨_, rfl, _, rfl, rfl, ?_⟩⟩
        show Q (.bl (decide (V.str z = V.str z))) H
        rw [decide_eq_true rfl]
        exact q
      · obtain rfl := Dp.int_inv dx
        obtain rfl := Dp.int_inv dy
        refine isi_t rfl (.base (.int i)) (b := false) (by decide +kernel) (iteF ?_)
        refine isi_t rfl (.base (.int i)) (b := false) (by decide +kernel) (iteF ?_)
        refine isi_t rfl (.base (.int i)) (b := false) (by decide +kernel) (iteF ?_)
        refine isi_t rfl (.base (.int i)) (b := true) (by decide +kernel) (iteT ?_)
        refine isi_q rfl (.base (.int i)) (b := true) (by decide +kernel) ⟨_, rfl, iteT (isi_q rfl (.base (.int i)) (b := false) (by decide +kernel) ⟨_, rfl, _, rfl, iteT ⟨_, rfl, _, rfl, rfl, ?_⟩⟩)⟩
        show Q (.bl (decide (V.int i = V.int i))) H
        rw [decide_eq_true rfl]
        exact q
      · obtain rfl := Dp.bl_inv dx
        obtain rfl := Dp.bl_inv dy
        refine isi_t rfl (.base (.bl b)) (b := false) (by decide +kernel) (iteF ?_)
        refine isi_t rfl (.base (.bl b)) (b := false) (by decide +kernel) (iteF ?_)
        refine isi_t rfl (.base (.bl b)) (b := true) (by decide +kernel) (iteT ?_)
        refine isi_q rfl (.base (.bl b)) (b := true) (by decide +kernel) ⟨_, rfl, iteT ⟨_, rfl, _, rfl, rfl, ?_⟩⟩
        show Q (.bl (decide (V.bl b = V.bl b))) H
        rw [decide_eq_true rfl]
        exact q
theorem has_equalD1 {n : Nat} (D : Def K mg "_law_equal" ["actual", "due"] (top 63)) (T : Txt mg) (C1 : Has P w K mg base (1 + 2 * n + 1) "_law_all_equal" ["actual", "due"] (spAllD K n)) : Has P w K mg base (1 + 2 * n + 1 + 1) "_law_equal" ["actual", "due"] (spEqD K (n + 1)) := D.has fun f fd F => by
  obtain ⟨f1, fd1, G_law_all_equal, g_law_all_equal, k_law_all_equal, b_law_all_equal⟩ := C1
  refine F.ok sc_equalD (fun vs H Q E h => ?_) (fun cdv A outer s H vs Q E hr h => ?_)
  · obtain ⟨x, y, d, rfl, _⟩ := h; rfl
  · obtain ⟨x, y, d, rfl, dx, dy, th, q⟩ := h
    have R_law_all_equal : Room (1 + 2 * n + 1) _ := hr
    refine ⟨_, PSs.nox (pss_cons (ps_if (pt_val (pe_callB call_isi (by rfl) T.n_isinstance (by decide +kernel) (pa_cons (pv 1) (pa_cons (pe_bltn (v := .ty "list") (by rfl) T.n_list (by decide +kernel) rfl) pa_nil)))) (pss_cons (ps_if (PW.pt (pw_or (pt_not (pt_val (pe_callB call_isi (by rfl) T.n_isinstance (by decide +kernel) (pa_cons (pv 0) (pa_cons (pe_bltn (v := .ty "list") (by rfl) T.n_list (by decide +kernel) rfl) pa_nil))))) (pw_or1 (pt_cmpR op_ne (pe_callB call_len_seq (by rfl) T.n_len PySem.boot_len (pa_cons (pv 0) pa_nil)) (pe_callB call_len_seq (by rfl) T.n_len PySem.boot_len (pa_cons (pv 1) pa_nil)) (nomark _))))) (pss_one (ps_ret pe_bl)) pss_nil) (pss_one (ps_ret (pe_call G_law_all_equal R_law_all_equal (by rfl) g_law_all_equal k_law_all_equal b_law_all_equal .nil pass0 (pa_cons (pv 0) (pa_cons (pv 1) pa_nil)))))) pss_nil) (pss_cons (ps_if (pt_val (pe_callB call_isi (by rfl) T.n_isinstance (by decide +kernel) (pa_cons (pv 1) (pa_cons (pe_bltn (v := .ty "tuple") (by rfl) T.n_tuple (by decide +kernel) rfl) pa_nil)))) (pss_cons (ps_if (PW.pt (pw_or (pt_not (pt_val (pe_callB call_isi (by rfl) T.n_isinstance (by decide +kernel) (pa_cons (pv 0) (pa_cons (pe_bltn (v := .ty "tuple") (by rfl) T.n_tuple (by decide +kernel) rfl) pa_nil))))) (pw_or1 (pt_cmpR op_ne (pe_callB call_len_seq (by rfl) T.n_len PySem.boot_len (pa_cons (pv 0) pa_nil)) (pe_callB call_len_seq (by rfl) T.n_len PySem.boot_len (pa_cons (pv 1) pa_nil)) (nomark _))))) (pss_one (ps_ret pe_bl)) pss_nil) (pss_one (ps_ret (pe_call G_law_all_equal R_law_all_equal (by rfl) g_law_all_equal k_law_all_equal b_law_all_equal .nil pass0 (pa_cons (pv 0) (pa_cons (pv 1) pa_nil)))))) pss_nil) (pss_cons (ps_if (pt_val (pe_callB call_isi (by rfl) T.n_isinstance (by decide +kernel) (pa_cons (pv 1) (pa_cons (pe_bltn (v := .ty "bool") (by rfl) T.n_bool (by decide +kernel) rfl) pa_nil)))) (pss_one (ps_ret (pe_and (pe_callB call_isi (by rfl) T.n_isinstance (by decide +kernel) (pa_cons (pv 0) (pa_cons (pe_bltn (v := .ty "bool") (by rfl) T.n_bool (by decide +kernel) rfl) pa_nil))) (pe_one (pe_cmpR op_eq (pv 0) (pv 1) (nomark _)))))) pss_nil) (pss_cons (ps_if (pt_val (pe_callB call_isi (by rfl) T.n_isinstance (by decide +kernel) (pa_cons (pv 1) (pa_cons (pe_bltn (v := .ty "int") (by rfl) T.n_int (by decide +kernel) rfl) pa_nil)))) (pss_one (ps_ret (pe_and (pe_callB call_isi (by rfl) T.n_isinstance (by decide +kernel) (pa_cons (pv 0) (pa_cons (pe_bltn (v := .ty "int") (by rfl) T.n_int (by decide +kernel) rfl) pa_nil))) (pe_and (pe_not (pe_callB call_isi (by rfl) T.n_isinstance (by decide +kernel) (pa_cons (pv 0) (pa_cons (pe_bltn (v := .ty "bool") (by rfl) T.n_bool (by decide +kernel) rfl) pa_nil)))) (pe_one (pe_cmpR op_eq (pv 0) (pv 1) (nomark _))))))) pss_nil) (pss_cons (ps_if (pt_val (pe_callB call_isi (by rfl) T.n_isinstance (by decide +kernel) (pa_cons (pv 1) (pa_cons (pe_bltn (v := .ty "str") (by rfl) T.n_str (by decide +kernel) rfl) pa_nil)))) (pss_one (ps_ret (pe_and (pe_callB call_isi (by rfl) T.n_isinstance (by decide +kernel) (pa_cons (pv 0) (pa_cons (pe_bltn (v := .ty "str") (by rfl) T.n_str (by decide +kernel) rfl) pa_nil))) (pe_one (pe_cmpR op_eq (pv 0) (pv 1) (nomark _)))))) pss_nil) (pss_one (ps_ret (pe_cmpR op_isN (pv 0) pe_non (nomark _))))))))), ?_⟩
    cases th with
    | flat h =>
      rcases h with ⟨z, rfl⟩ | ⟨i, rfl⟩ | ⟨b, rfl⟩
      · obtain rfl := Dp.str_inv dx
        obtain rfl := Dp.str_inv dy
        refine isi_t rfl (.base (.str z)) (b := false) (by decide +kernel) (iteF ?_)
        refine isi_t rfl (.base (.str z)) (b := false) (by decide +kernel) (iteF ?_)
        refine isi_t rfl (.base (.str z)) (b := false) (by decide +kernel) (iteF ?_)
        refine isi_t rfl (.base (.str z)) (b := false) (by decide +kernel) (iteF ?_)
        refine isi_t rfl (.base (.str z)) (b := true) (by decide +kernel) (iteT ?_)
        refine isi_q rfl (.base (.str z)) (b := true) (by decide +kernel) ⟨_, rfl, iteT ⟨_, rfl, _, rfl, rfl, ?_⟩⟩
        show Q (.bl (decide (V.str z = V.str z))) H
        rw [decide_eq_true rfl]
        exact q
      · obtain rfl := Dp.int_inv dx
        obtain rfl := Dp.int_inv dy
        refine isi_t rfl (.base (.int i)) (b := false) (by decide +kernel) (iteF ?_)
        refine isi_t rfl (.base (.int i)) (b := false) (by decide +kernel) (iteF ?_)
        refine isi_t rfl (.base (.int i)) (b := false) (by decide +kernel) (iteF ?_)
        refine isi_t rfl (.base (.int i)) (b := true) (by decide +kernel) (iteT ?_)
        refine isi_q rfl (.base (.int i)) (b := true) (by decide +kernel) ⟨_, rfl, iteT (isi_q rfl (.base (.int i)) (b := false) (by decide +kernel) ⟨_, rfl, _, rfl, iteT ⟨_, rfl, _, rfl, rfl, ?_⟩⟩)⟩
        show Q (.bl (decide (V.int i = V.int i))) H
        rw [decide_eq_true rfl]
        exact q
      · obtain rfl := Dp.bl_inv dx
        obtain rfl := Dp.bl_inv dy
        refine isi_t rfl (.base (.bl b)) (b := false) (by decide +kernel) (iteF ?_)
        refine isi_t rfl (.base (.bl b)) (b := false) (by decide +kernel) (iteF ?_)
        refine isi_t rfl (.base (.bl b)) (b := true) (by decide +kernel) (iteT ?_)
        refine isi_q rfl (.base (.bl b)) (b := true) (by decide +kernel) ⟨_, rfl, iteT ⟨_, rfl, _, rfl, rfl, ?_⟩⟩
        show Q (.bl (decide (V.bl b = V.bl b))) H
        rw [decide_eq_true rfl]
        exact q
    | lst l th =>
      obtain ⟨a, xs, rfl, h1, hx⟩ := Dp.lst_inv dx
      obtain ⟨b, ys, rfl, h2, hy⟩ := Dp.lst_inv dy
      have ll : xs.length = ys.length := by rw [DpAll.length hx, DpAll.length hy]
      refine isi_t rfl (ty_lst h2) (b := true) (by decide +kernel) (iteT ?_)
      refine isi_t rfl (ty_lst h1) (b := true) (by decide +kernel) ?_
      refine cF (k := !true) rfl ⟨_, rfl, a, xs, rfl, .inl h1, _, rfl, b, ys, rfl, .inl h2, rfl, _, rfl, cF (k := !decide (V.int (xs.length : Nat) = V.int (ys.length : Nat))) (by rw [ll, decide_eq_true rfl]; rfl) ?_⟩
      exact ⟨_, rfl, _, rfl, a, b, xs, ys, _, rfl, .inl ⟨h1, h2⟩, hx, hy, l, th, q⟩
    | tup l th =>
      obtain ⟨a, xs, rfl, h1, hx⟩ := Dp.tup_inv dx
      obtain ⟨b, ys, rfl, h2, hy⟩ := Dp.tup_inv dy
      have ll : xs.length = ys.length := by rw [DpAll.length hx, DpAll.length hy]
      refine isi_t rfl (ty_tup h2) (b := false) (by decide +kernel) (iteF ?_)
      refine isi_t rfl (ty_tup h2) (b := true) (by decide +kernel) (iteT ?_)
      refine isi_t rfl (ty_tup h1) (b := true) (by decide +kernel) ?_
      refine cF (k := !true) rfl ⟨_, rfl, a, xs, rfl, .inr h1, _, rfl, b, ys, rfl, .inr h2, rfl, _, rfl, cF (k := !decide (V.int (xs.length : Nat) = V.int (ys.length : Nat))) (by rw [ll, decide_eq_true rfl]; rfl) ?_⟩
      exact ⟨_, rfl, _, rfl, a, b, xs, ys, _, rfl, .inr ⟨h1, h2⟩, hx, hy, l, th, q⟩
theorem has_equalD (D1 : Def K mg "_law_equal" ["actual", "due"] (top 63)) (D2 : Def K mg "_law_all_equal" ["actual", "due"] (top 64)) (T : Txt mg) : Has P w K mg base 5 "_law_equal" ["actual", "due"] (spEqD K 2) :=
  has_equalD1 (n := 1) D1 T (has_all_equal (n := 1) D2 T (has_equalD1 (n := 0) D1 T (has_all_equal (n := 0) D2 T (has_equalD0 D1 T))))
end
/-! ### how many -/
theorem parts_len {h : Hd} {n : Nat} (k : h.Ok n) : n ≤ 40 := by
  cases h with
  | rel m as => have := k.2.2.2; omega
  | eq x y => have := k.2.2; omega
  | less x y => have := k.2.2; omega
  | no => have : n = 1 := k; omega
  | con => exact k
  | dis => exact k
  | ex vs => have := k.2; omega
  | al vs => have := k.2; omega
  | lfp m vs as => have := k.2.2.2.2; omega
  | pfp m vs as => have := k.2.2.2.2; omega
  | tc vs as => have := k.2.2.2.2.2; omega
  | gs m j => have := k.2.2; omega
theorem own_le {h : Hd} {n : Nat} (k : h.Ok n) : h.own.length ≤ 8 := by
  cases h with
  | rel m as => exact Nat.zero_le _
  | eq x y => exact Nat.zero_le _
  | less x y => exact Nat.zero_le _
  | no => exact Nat.zero_le _
  | con => exact Nat.zero_le _
  | dis => exact Nat.zero_le _
  | ex vs => have := k.1.2.1; exact Nat.le_trans this (by decide)
  | al vs => have := k.1.2.1; exact Nat.le_trans this (by decide)
  | lfp m vs as => have := k.2.1.2.1; exact Nat.le_trans this (by decide)
  | pfp m vs as => have := k.2.1.2.1; exact Nat.le_trans this (by decide)
  | tc vs as => show vs.length ≤ 8; have := k.1; omega
  | gs m j => exact Nat.zero_le _
/-! ### bound variables renamed: heads -/
def Hd.withOwn (h : Hd) (us : List Str) : Hd := match h with
  | .ex _ => .ex us
  | .al _ => .al us
  | .lfp n _ as => .lfp n us as
  | .pfp n _ as => .pfp n us as
  | .tc _ as => .tc us as
  | h => h
def two (as : List Str) (f : Str → Str → Hd) (h : Hd) : Hd := match as with
  | [a, b] => f a b
  | _ => h
def Hd.withArgs (h : Hd) (as : List Str) : Hd := match h with
  | .rel n _ => .rel n as
  | .eq x y => two as Hd.eq (.eq x y)
  | .less x y => two as Hd.less (.less x y)
  | .lfp n us _ => .lfp n us as
  | .pfp n us _ => .pfp n us as
  | .tc us _ => .tc us as
  | h => h
theorem two_of {as : List Str} (l : as.length = 2) : ∃ a b, as = [a, b] := by
  match as, l with
  | [a, b], _ => exact ⟨a, b, rfl⟩
theorem own_withOwn {h : Hd} {us : List Str} (l : us.length = h.own.length) : (h.withOwn us).own = us := by
  cases h <;> first | rfl | exact (List.length_eq_zero_iff.mp l).symm
theorem args_withArgs {h : Hd} {as : List Str} (l : as.length = h.args.length) : (h.withArgs as).args = as := by
  cases h with
  | eq x y => obtain ⟨a, b, rfl⟩ := two_of l; rfl
  | less x y => obtain ⟨a, b, rfl⟩ := two_of l; rfl
  | no => exact (List.length_eq_zero_iff.mp l).symm
  | con => exact (List.length_eq_zero_iff.mp l).symm
  | dis => exact (List.length_eq_zero_iff.mp l).symm
  | ex vs => exact (List.length_eq_zero_iff.mp l).symm
  | al vs => exact (List.length_eq_zero_iff.mp l).symm
  | gs n k => exact (List.length_eq_zero_iff.mp l).symm
  | _ => rfl
theorem own_withArgs {h : Hd} {as : List Str} (l : as.length = h.args.length) : (h.withArgs as).own = h.own := by
  cases h with
  | eq x y => obtain ⟨a, b, rfl⟩ := two_of l; rfl
  | less x y => obtain ⟨a, b, rfl⟩ := two_of l; rfl
  | _ => rfl
theorem args_withOwn {h : Hd} {us : List Str} : (h.withOwn us).args = h.args := by cases h <;> rfl
/-- a head with other variables -/
def Hd.re (h : Hd) (as us : List Str) : Hd := (h.withArgs as).withOwn us
structure ReOk (h : Hd) (as us : List Str) : Prop where
  la : as.length = h.args.length
  lu : us.length = h.own.length
  na : Names as
  nu : Names us
  nd : us.Nodup
theorem re_own {h : Hd} {as us : List Str} (r : ReOk h as us) : (h.re as us).own = us := own_withOwn (by rw [own_withArgs r.la]; exact r.lu)
theorem re_args {h : Hd} {as us : List Str} (r : ReOk h as us) : (h.re as us).args = as := by
  unfold Hd.re
  rw [args_withOwn, args_withArgs r.la]
theorem re_kd {h : Hd} {as us : List Str} (r : ReOk h as us) : (h.re as us).kd = h.kd := by
  cases h with
  | eq x y => obtain ⟨a, b, rfl⟩ := two_of r.la; rfl
  | less x y => obtain ⟨a, b, rfl⟩ := two_of r.la; rfl
  | _ => rfl
theorem re_bound {h : Hd} {as us : List Str} (r : ReOk h as us) : (h.re as us).bound = h.bound := by
  cases h with
  | eq x y => obtain ⟨a, b, rfl⟩ := two_of r.la; rfl
  | less x y => obtain ⟨a, b, rfl⟩ := two_of r.la; rfl
  | lfp n vs bs => show some (n, us.length) = some (n, vs.length); rw [show us.length = vs.length from r.lu]
  | pfp n vs bs => show some (n, us.length) = some (n, vs.length); rw [show us.length = vs.length from r.lu]
  | _ => rfl
theorem re_sgn {h : Hd} {as us : List Str} (r : ReOk h as us) (s : Int) : (h.re as us).sgn s = h.sgn s := by
  cases h with
  | eq x y => obtain ⟨a, b, rfl⟩ := two_of r.la; rfl
  | less x y => obtain ⟨a, b, rfl⟩ := two_of r.la; rfl
  | _ => rfl
theorem re_env {h : Hd} {as us : List Str} (r : ReOk h as us) (Γ : ArE) : (h.re as us).env Γ = h.env Γ := by
  unfold Hd.env
  rw [re_bound r]
theorem re_ok {h : Hd} {as us : List Str} (r : ReOk h as us) {n : Nat} (k : h.Ok n) : (h.re as us).Ok n := by
  have la := r.la
  have lu := r.lu
  cases h with
  | rel m bs => exact ⟨k.1, by rw [show as.length = bs.length from la]; exact k.2.1, r.na, k.2.2.2⟩
  | eq x y => obtain ⟨a, b, rfl⟩ := two_of la; exact ⟨r.na a (List.mem_cons_self ..), r.na b (List.mem_cons_of_mem _ (List.mem_cons_self ..)), k.2.2⟩
  | less x y => obtain ⟨a, b, rfl⟩ := two_of la; exact ⟨r.na a (List.mem_cons_self ..), r.na b (List.mem_cons_of_mem _ (List.mem_cons_self ..)), k.2.2⟩
  | no => exact k
  | con => exact k
  | dis => exact k
  | ex vs => exact ⟨⟨by rw [show us.length = vs.length from lu]; exact k.1.1, by rw [show us.length = vs.length from lu]; exact k.1.2.1, r.nu, r.nd⟩, k.2⟩
  | al vs => exact ⟨⟨by rw [show us.length = vs.length from lu]; exact k.1.1, by rw [show us.length = vs.length from lu]; exact k.1.2.1, r.nu, r.nd⟩, k.2⟩
  | lfp m vs bs => exact ⟨k.1, ⟨by rw [show us.length = vs.length from lu]; exact k.2.1.1, by rw [show us.length = vs.length from lu]; exact k.2.1.2.1, r.nu, r.nd⟩, by rw [show as.length = bs.length from la, show us.length = vs.length from lu]; exact k.2.2.1, r.na, k.2.2.2.2⟩
  | pfp m vs bs => exact ⟨k.1, ⟨by rw [show us.length = vs.length from lu]; exact k.2.1.1, by rw [show us.length = vs.length from lu]; exact k.2.1.2.1, r.nu, r.nd⟩, by rw [show as.length = bs.length from la, show us.length = vs.length from lu]; exact k.2.2.1, r.na, k.2.2.2.2⟩
  | tc vs bs => exact ⟨by rw [show us.length = vs.length from lu]; exact k.1, r.nu, r.nd, by rw [show as.length = bs.length from la, show us.length = vs.length from lu]; exact k.2.2.2.1, r.na, k.2.2.2.2.2⟩
  | gs m j => exact k
theorem re_rel {h : Hd} {as us : List Str} {n : Str} {bs : List Str} (r : ReOk h as us) (e : h = .rel n bs) : h.re as us = .rel n as := by subst e; rfl
theorem re_lfp {h : Hd} {as us : List Str} {n : Str} {vs bs : List Str} (r : ReOk h as us) (e : h.re as us = .lfp n vs bs) : ∃ vs' bs', h = .lfp n vs' bs' := by
  cases h with
  | lfp m xs ys => injection e with e1; subst e1; exact ⟨_, _, rfl⟩
  | eq x y => obtain ⟨a, b, rfl⟩ := two_of r.la; cases e
  | less x y => obtain ⟨a, b, rfl⟩ := two_of r.la; cases e
  | _ => cases e
/-! ### changes -/
def updC (c : Str → Str) : List Str → List Str → Str → Str
  | o :: os, u :: us => updC (fun x => if x = o then u else c x) os us
  | _, _ => c
theorem updC_out {x : Str} : ∀ {os us : List Str} {c : Str → Str}, x ∉ os → updC c os us x = c x
  | [], us, c, _ => by cases us <;> rfl
  | o :: os, [], c, _ => rfl
  | o :: os, u :: us, c, h => by
    show updC (fun x => if x = o then u else c x) os us x = c x
    rw [updC_out fun z => h (List.mem_cons_of_mem _ z)]
    show (if x = o then u else c x) = c x
    rw [if_neg fun e => h (by rw [e]; exact List.mem_cons_self ..)]
theorem updC_in {x : Str} : ∀ {os us : List Str} {c : Str → Str}, us.length = os.length → x ∈ os → updC c os us x ∈ us
  | [], us, c, _, h => nomatch h
  | o :: os, [], c, l, h => by cases l
  | o :: os, u :: us, c, l, h => by
    show updC (fun x => if x = o then u else c x) os us x ∈ u :: us
    by_cases m : x ∈ os
    · exact List.mem_cons_of_mem _ (updC_in (Nat.succ.inj l) m)
    · rw [updC_out m]
      have e : x = o := (List.mem_cons.mp h).resolve_right m
      show (if x = o then u else c x) ∈ u :: us
      rw [if_pos e]
      exact List.mem_cons_self ..
theorem updC_snoc {c : Str → Str} {o u : Str} : ∀ {os us : List Str}, us.length = os.length → updC c (os ++ [o]) (us ++ [u]) = fun x => if x = o then u else updC c os us x
  | [], us, l => by rw [List.length_eq_zero_iff.mp l]; rfl
  | a :: os, [], l => by cases l
  | a :: os, b :: us, l => by
    show updC (fun x => if x = a then b else c x) (os ++ [o]) (us ++ [u]) = _
    rw [updC_snoc (Nat.succ.inj l)]
    rfl
/-- g is f with other bound variables and, for its free ones, what c says -/
inductive Sm : (Str → Str) → Fm → Fm → Prop
  | mk {c : Str → Str} {h : Hd} {ps qs : List Fm} {us : List Str} (r : ReOk h (h.args.map c) us) (fr : ∀ x, x ∈ (Fm.mk h ps).frees → c x ∉ us) (l : qs.length = ps.length)
      (p : ∀ (i : Nat) (a b : Fm), ps[i]? = some a → qs[i]? = some b → Sm (updC c h.own us) a b) : Sm c (.mk h ps) (.mk (h.re (h.args.map c) us) qs)
theorem map_two {α β : Type} {F : α → β} {ps qs : List α} (l : qs.length = ps.length) (h : ∀ (i : Nat) (a b : α), ps[i]? = some a → qs[i]? = some b → F b = F a) : qs.map F = ps.map F := by
  apply List.ext_getElem?
  intro i
  rw [List.getElem?_map, List.getElem?_map]
  by_cases hi : i < ps.length
  · rw [List.getElem?_eq_getElem hi, List.getElem?_eq_getElem (show i < qs.length by omega)]
    exact congrArg some (h i _ _ (List.getElem?_eq_getElem hi) (List.getElem?_eq_getElem (by omega)))
  · rw [List.getElem?_eq_none (by omega), List.getElem?_eq_none (by omega)]
theorem other {α : Type} {ps qs : List α} (l : qs.length = ps.length) {q : α} (hq : q ∈ qs) : ∃ (i : Nat) (p : α), ps[i]? = some p ∧ qs[i]? = some q ∧ p ∈ ps := by
  obtain ⟨i, hi, e⟩ := List.mem_iff_getElem.mp hq
  exact ⟨i, ps[i], List.getElem?_eq_getElem (by omega), by rw [← e]; exact List.getElem?_eq_getElem hi, List.getElem_mem _⟩
theorem other' {α : Type} {ps qs : List α} (l : qs.length = ps.length) {p : α} (hp : p ∈ ps) : ∃ (i : Nat) (q : α), ps[i]? = some p ∧ qs[i]? = some q ∧ q ∈ qs := by
  obtain ⟨i, hi, e⟩ := List.mem_iff_getElem.mp hp
  exact ⟨i, qs[i], by rw [← e]; exact List.getElem?_eq_getElem hi, List.getElem?_eq_getElem (by omega), List.getElem_mem _⟩
theorem Sm.sizes {c : Str → Str} {f g : Fm} (s : Sm c f g) : g.dep = f.dep ∧ g.cnt = f.cnt := by
  induction s with
  | mk r fr l p ih =>
    rw [Fm.dep_mk, Fm.dep_mk, Fm.cnt_mk, Fm.cnt_mk, map_two l fun i a b ha hb => (ih i a b ha hb).1, map_two l fun i a b ha hb => (ih i a b ha hb).2]
    exact ⟨rfl, rfl⟩
theorem Sm.ok {c : Str → Str} {f g : Fm} (s : Sm c f g) : f.Ok → g.Ok := by
  induction s with
  | mk r fr l p ih =>
    intro k
    refine .mk (by rw [l]; exact re_ok r k.hd_) fun q hq => ?_
    obtain ⟨i, a, ha, hb, m⟩ := other l hq
    exact ih i a q ha hb (k.part m)
theorem Sm.typed {c : Str → Str} {f g : Fm} (s : Sm c f g) : ∀ Γ, f.Typed Γ → g.Typed Γ := by
  induction s with
  | @mk c h ps qs us r fr l p ih =>
    intro Γ t
    by_cases nr : h.kd = .rel
    · cases h with
      | rel n bs =>
        have z := re_rel r rfl
        rw [z]
        cases t with
        | rel e => exact .rel (by rw [List.length_map]; exact e)
        | other n _ => exact absurd rfl n
      | _ => cases nr
    · refine .other (by rw [re_kd r]; exact nr) fun q hq => ?_
      obtain ⟨i, a, ha, hb, m⟩ := other l hq
      rw [re_env r]
      exact ih i a q ha hb _ (t.part nr m)
theorem Sm.pos {c : Str → Str} {f g : Fm} (s : Sm c f g) : ∀ x t, g.pos x t = f.pos x t := by
  induction s with
  | @mk c h ps qs us r fr l p ih =>
    intro x t
    by_cases nr : h.kd = .rel
    · cases h with
      | rel n bs => rw [re_rel r rfl, Fm.pos_rel, Fm.pos_rel]
      | _ => cases nr
    · have eb : (h.re (h.args.map c) us).bname = h.bname := by unfold Hd.bname; rw [re_bound r]
      rw [Fm.pos_other (by rw [re_kd r]; exact nr), Fm.pos_other nr, eb, re_sgn r]
      have e : (qs.map fun q => q.pos x (h.sgn t)) = ps.map fun q => q.pos x (h.sgn t) := map_two l fun i a b ha hb => ih i a b ha hb _ _
      have a1 : (qs.all fun q => q.pos x (h.sgn t)) = (ps.all fun q => q.pos x (h.sgn t)) := by
        have := congrArg (fun z : List Bool => z.all id) e
        simpa [List.all_map] using this
      rw [a1]
theorem Sm.posok {c : Str → Str} {f g : Fm} (s : Sm c f g) : f.PosOk → g.PosOk := by
  induction s with
  | @mk c h ps qs us r fr l p ih =>
    intro k
    refine .mk (fun n vs bs e q hq => ?_) fun q hq => ?_
    · obtain ⟨i, a, ha, hb, m⟩ := other l hq
      obtain ⟨vs', bs', rfl⟩ := re_lfp r e
      rw [(p i a q ha hb).pos]
      exact k.here m
    · obtain ⟨i, a, ha, hb, m⟩ := other l hq
      exact ih i a q ha hb (k.part m)
theorem Sm.wf {c : Str → Str} {f g : Fm} (s : Sm c f g) (w : f.Wf) : g.Wf := by
  obtain ⟨Γ, t⟩ := w.ty
  exact ⟨s.ok w.ok, by rw [s.sizes.1]; exact w.dep, by rw [s.sizes.2]; exact w.cnt, s.posok w.pos, Γ, s.typed Γ t⟩
theorem Sm.frees {c : Str → Str} {f g : Fm} (s : Sm c f g) : ∀ y, y ∈ g.frees ↔ ∃ x, x ∈ f.frees ∧ y = c x := by
  induction s with
  | @mk c h ps qs us r fr l p ih =>
    intro y
    rw [Fm.frees_mem, re_own r, re_args r]
    constructor
    · rintro (⟨q, hq, hy, hu⟩ | ha)
      · obtain ⟨i, a, ha, hb, m⟩ := other l hq
        obtain ⟨x, hx, rfl⟩ := (ih i a q ha hb y).mp hy
        by_cases o : x ∈ h.own
        · exact absurd (updC_in r.lu o) hu
        · rw [updC_out o]
          exact ⟨x, Fm.frees_mem.mpr (.inl ⟨a, m, hx, o⟩), rfl⟩
      · obtain ⟨x, hx, rfl⟩ := List.mem_map.mp ha
        exact ⟨x, Fm.frees_mem.mpr (.inr hx), rfl⟩
    · rintro ⟨x, hx, rfl⟩
      have nu := fr x hx
      rcases Fm.frees_mem.mp hx with ⟨a, m, hx2, o⟩ | hx2
      · obtain ⟨i, q, ha, hb, mq⟩ := other' l m
        exact .inl ⟨q, mq, (ih i a q ha hb (c x)).mpr ⟨x, hx2, (updC_out o).symm⟩, nu⟩
      · exact .inr (List.mem_map.mpr ⟨x, hx2, rfl⟩)
/-- all bound variables, as they stand -/
def Fm.allB : Fm → List Str := Fm.fold fun h xs => h.own ++ xs.flatten
theorem Fm.allB_mk (h : Hd) (ps : List Fm) : (Fm.mk h ps).allB = h.own ++ (ps.map Fm.allB).flatten := Fm.fold_mk _ h ps
/-! ### names that are made -/
def vN (k : Nat) : Str := "v" ++ (toString ((k : Nat) : Int) : Str)
theorem vN_cps (k : Nat) : (vN k).cps.toList = 118 :: (Nat.toDigits 10 k).map Char.toNat := by
  have e : (vN k).cps.toList = ("v" : Str).cps.toList ++ (PySem.Str.ofString (toString ((k : Nat) : Int))).cps.toList := Array.toList_append
  rw [e, PySem.W.KIN.signs_num]
  rfl
theorem vN_inj {k m : Nat} (e : vN k = vN m) : k = m := by
  have z := congrArg (fun s : Str => s.cps.toList) e
  simp only [vN_cps] at z
  injection z with _ z
  have y := congrArg PySem.NumText.digitsVal z
  rw [PySem.W.KIN.val_back, PySem.W.KIN.val_back] at y
  exact y
/-! ### made names are names -/
theorem vN_nm {k : Nat} (h : k < 10 ^ 11) : Nm (vN k) := by
  have len : (vN k).length = 1 + (Nat.toDigits 10 k).length := by
    have e : (vN k).length = (vN k).cps.toList.length := Array.length_toList.symm
    rw [e, vN_cps, List.length_cons, List.length_map]
    omega
  have dl := PyProof.Rows.digits10_le (k := 11) (n := k) (by decide) h
  refine ⟨by omega, by omega, fun c hc => ?_, ?_, fun c hc => ?_⟩
  · rw [vN_cps] at hc
    cases hc
    decide +kernel
  · have b : (resv.all fun v => match v with | .str z => !decide (z.cps.toList[0]? = some 118) | _ => true) = true := by decide +kernel
    cases hv : inV (.str (vN k)) resv with
    | false => rfl
    | true =>
      unfold inV at hv
      obtain ⟨v, hm, he⟩ := List.any_eq_true.mp hv
      have z := List.all_eq_true.mp b v hm
      cases v with
      | str y =>
        have e : y = vN k := by
          first
            | exact eq_of_beq he
            | exact (of_decide_eq_true he)
            | (have := he; simp at this; first | exact this | exact this.symm)
        subst e
        have z2 : (!decide ((vN k).cps.toList[0]? = some 118)) = true := z
        rw [vN_cps] at z2
        simp at z2
      | _ => first | cases he | (simp at he)
  · rw [vN_cps] at hc
    rcases List.mem_cons.mp hc with rfl | hc
    · decide +kernel
    · obtain ⟨ch, hch, rfl⟩ := List.mem_map.mp hc
      have r := PyProof.Rows.digit_range (Nat.isDigit_of_mem_toDigits (by decide) (by decide) hch)
      have all : ∀ d : Nat, 48 ≤ d → d ≤ 57 → d ∈ both.cps.toList := by
        intro d h1 h2
        have b : ((List.range 10).all fun i => decide ((48 + i) ∈ both.cps.toList)) = true := by decide +kernel
        have z := List.all_eq_true.mp b (d - 48) (List.mem_range.mpr (by omega))
        have e : 48 + (d - 48) = d := by omega
        rw [e] at z
        exact of_decide_eq_true z
      exact all _ r.1 r.2
theorem least_of (p : Nat → Prop) : ∀ (n made : Nat), (∃ j, made < j ∧ j ≤ made + n ∧ p j) → ∃ j, made < j ∧ j ≤ made + n ∧ p j ∧ ∀ i, made < i → i < j → ¬ p i
  | 0, made, ⟨j, a, b, _⟩ => absurd b (by omega)
  | n + 1, made, ⟨j, a, b, c⟩ => by
    by_cases h : p (made + 1)
    · exact ⟨made + 1, by omega, by omega, h, fun i a b => absurd b (by omega)⟩
    · have ne : j ≠ made + 1 := fun e => h (e ▸ c)
      obtain ⟨k, k1, k2, k3, k4⟩ := least_of p n (made + 1) ⟨j, by omega, by omega, c⟩
      refine ⟨k, by omega, by omega, k3, fun i i1 i2 => ?_⟩
      by_cases e : i = made + 1
      · rw [e]; exact h
      · exact k4 i (by omega) i2
/-- the next name that is made: j, and none before it -/
theorem next_made (used known : List Str) (made : Nat) : ∃ j, made < j ∧ j ≤ made + (used.length + known.length + 1) ∧ (vN j ∉ used ∧ vN j ∉ known) ∧ ∀ i, made < i → i < j → ¬ (vN i ∉ used ∧ vN i ∉ known) := by
  refine least_of (fun j => vN j ∉ used ∧ vN j ∉ known) _ made ?_
  by_cases h : ∃ j, made < j ∧ j ≤ made + (used.length + known.length + 1) ∧ vN j ∉ used ∧ vN j ∉ known
  · exact h
  · have all : ∀ i, i < used.length + known.length + 1 → vN (made + 1 + i) ∈ used ++ known := fun i hi => by
      by_cases c : vN (made + 1 + i) ∈ used
      · exact List.mem_append_left _ c
      · by_cases c2 : vN (made + 1 + i) ∈ known
        · exact List.mem_append_right _ c2
        · exact absurd ⟨made + 1 + i, by omega, by omega, c, c2⟩ h
    have nd : ((List.range (used.length + known.length + 1)).map fun i => vN (made + 1 + i)).Nodup :=
      List.pairwise_map.mpr (List.Pairwise.imp (fun {a b} (hab : a < b) e => by have := vN_inj e; omega) List.pairwise_lt_range)
    have z := sub_len _ (used ++ known) nd fun x hx => by
      obtain ⟨i, hi, rfl⟩ := List.mem_map.mp hx
      exact all i (List.mem_range.mp hi)
    rw [List.length_map, List.length_range, List.length_append] at z
    omega
/-! ### a source of names -/
structure Src where
  used : List Str
  known : List Str
  made : Nat
def Src.Tk (S : Src) (z : Str) : Prop := z ∈ S.used ∨ ∃ k, 1 ≤ k ∧ k ≤ S.made ∧ z = vN k ∧ z ∉ S.known
structure Src.Bd (S : Src) (t : Nat) : Prop where
  nd : S.used.Nodup
  lu : S.used.length ≤ t
  lk : S.known.length ≤ 20000
  lm : S.made ≤ 50000 * t
/-- what is given out instead of a known name -/
structure Gv (S : Src) (u : Str) (S' : Src) : Prop where
  nm : Nm u
  new : ¬ S.Tk u
  tk : ∀ z, S'.Tk z ↔ S.Tk z ∨ z = u
  kn : S'.known = S.known
  bd : ∀ t, S.Bd t → t < 20000 → S'.Bd (t + 1)
theorem gv_same {S : Src} {u : Str} {m : List Str} (hu : u ∉ S.used) (hk : u ∈ S.known) (nm : Nm u) (nd : S.used.Nodup → m.Nodup) (mm : ∀ y, y ∈ m ↔ y ∈ S.used ∨ y = u) (lm : m.length ≤ S.used.length + 1) : Gv S u ⟨m, S.known, S.made⟩ := by
  refine ⟨nm, fun t => ?_, fun z => ?_, rfl, fun t b _ => ⟨nd b.nd, by have := b.lu; show m.length ≤ t + 1; omega, b.lk, by have := b.lm; show S.made ≤ _; omega⟩⟩
  · rcases t with h | ⟨k, _, _, _, h⟩
    · exact hu h
    · exact h hk
  · show (z ∈ m ∨ _) ↔ (z ∈ S.used ∨ _) ∨ _
    rw [mm]
    constructor
    · rintro ((h | h) | h)
      · exact .inl (.inl h)
      · exact .inr h
      · exact .inl (.inr h)
    · rintro ((h | h) | h)
      · exact .inl (.inl h)
      · exact .inr h
      · exact .inl (.inr h)
theorem gv_made {S : Src} {j : Nat} {b : Nat} (h1 : S.made < j) (h2 : j ≤ S.made + (S.used.length + S.known.length + 1)) (hu : vN j ∉ S.used) (hk : vN j ∉ S.known) (mid : ∀ i, S.made < i → i < j → ¬ (vN i ∉ S.used ∧ vN i ∉ S.known)) (sub : ∀ i, vN i ∈ S.used → vN i ∉ S.known → False)
    (bd : S.Bd b) (hb : b ≤ 20000) : Gv S (vN j) ⟨S.used, S.known, j⟩ := by
  have lu := bd.lu
  have lk := bd.lk
  have lm := bd.lm
  refine ⟨vN_nm (by omega), fun t => ?_, fun z => ?_, rfl, fun t b _ => ⟨b.nd, by have := b.lu; show S.used.length ≤ t + 1; omega, b.lk, by have := b.lm; have := b.lu; have := b.lk; show j ≤ _; omega⟩⟩
  · rcases t with h | ⟨k, _, k2, e, _⟩
    · exact hu h
    · have := vN_inj e
      omega
  · show (z ∈ S.used ∨ ∃ k, 1 ≤ k ∧ k ≤ j ∧ z = vN k ∧ z ∉ S.known) ↔ (z ∈ S.used ∨ _) ∨ _
    constructor
    · rintro (h | ⟨k, a, c, e, n⟩)
      · exact .inl (.inl h)
      · by_cases e1 : k ≤ S.made
        · exact .inl (.inr ⟨k, a, e1, e, n⟩)
        · by_cases e2 : k = j
          · rw [e2] at e; exact .inr e
          · exfalso
            have nu : vN k ∉ S.used := fun hm => sub k hm (e ▸ n)
            exact mid k (by omega) (by omega) ⟨nu, e ▸ n⟩
    · rintro ((h | ⟨k, a, c, e, n⟩) | e)
      · exact .inl h
      · exact .inr ⟨k, a, by omega, e, n⟩
      · exact .inr ⟨j, by omega, Nat.le_refl _, e, e ▸ hk⟩
/-! ### the class Names -/
theorem dc_it {J : It} {n : Nat} {G : Hp → Prop} {Y : Nat → Hp → V → Hp → Prop} (wk : Walk J n G Y) {g : TG} {tt : TT} {tk tv : TE}
    {vs : List Nat} {σ : L2.St} {H1 : Hp} {D : Addr} {Qd : Hp → Prop}
    (Pv : Nat → Hp → Prop) (h0 : Pv 0 (upd H1 D (.dK []))) (hG : ∀ i H, i ≤ n → Pv i H → G H)
    (hs : ∀ i x H H', i < n → Pv i H → Y i H x H' → g x (wipe σ vs) H' fun a A => wipe a vs = wipe σ vs ∧ tt a A fun b B =>
      if b = true then tk a B fun y C => tv a C fun z F => ∃ kvs k, y = kV k ∧ F D = some (.dK kvs) ∧ kvs.length < sizeLine ∧ Pv (i + 1) (upd F D (.dK (putK kvs k z)))
      else Pv (i + 1) B)
    (hd : ∀ H, Pv n H → Qd H) :
    ∃ U : Nat → Nat → Hp → Prop, (∃ m, U 0 m (upd H1 D (.dK []))) ∧ ∀ i m H, U i m H → (J.stop i H ∧ Qd H) ∨
      (J.go i H ∧ ∃ Nx : Hp → Prop, (∀ H', Nx H' → ∃ m', m' < m ∧ U (i + 1) m' H') ∧
        ∀ x H', J.yld i H x H' → g x (wipe σ vs) H' fun a A => wipe a vs = wipe σ vs ∧ tt a A fun b B =>
          if b = true then tk a B fun y C => tv a C fun z F => ∃ kvs k, y = kV k ∧ F D = some (.dK kvs) ∧ kvs.length < sizeLine ∧ Nx (upd F D (.dK (putK kvs k z)))
          else Nx B) := by
  refine ⟨fun i m H => m = n - i ∧ i ≤ n ∧ Pv i H, ⟨n, by simp, Nat.zero_le _, h0⟩, ?_⟩
  rintro i m H ⟨rfl, hi, p⟩
  have q := hG i H hi p
  by_cases lt : i < n
  · exact .inr ⟨wk.goes i H lt q, Pv (i + 1), fun H' p' => ⟨n - (i + 1), by omega, rfl, lt, p'⟩, fun x H' y => hs i x H H' lt p (wk.yields i H x H' lt q y)⟩
  · have e : i = n := by omega
    subst e
    exact .inl ⟨wk.stops H q, hd H p⟩
/-- a method as the top leaves it -/
def DefM (K : PySem.W.Frag) (c m q : Str) (ps : List Str) (st : Stmt) : Prop := ∃ f fd, FunD K m q (defArgs st) (defBody st) (defScope st) [] [] f fd ∧ Meth K (He.ga K c) m f ∧ Binds K fd ps []
def HasM (P : Program) (w : World) (K : PySem.W.Frag) (mg : Str → Option Value) (base : Heap) (k : Nat) (c m : Str) (ps : List Str) (sp : Sp) : Prop :=
  ∃ f fd, FnOk P w K mg base CX0 k f fd ps sp ∧ Meth K (He.ga K c) m f ∧ Binds K fd ps []
theorem DefM.has {P : Program} {w : World} {K : PySem.W.Frag} {mg : Str → Option Value} {base : Heap} {c m q : Str} {ps : List Str} {st : Stmt} {k : Nat} {sp : Sp} (D : DefM K c m q ps st)
    (h : ∀ f fd, FunD K m q (defArgs st) (defBody st) (defScope st) [] [] f fd → FnOk P w K mg base CX0 k f fd ps sp) : HasM P w K mg base k c m ps sp := by
  obtain ⟨f, fd, F, g, b⟩ := D
  exact ⟨f, fd, h f fd F, g, b⟩
structure NdC (K : PySem.W.Frag) : Prop where
  cls : Cls K (He.ga K "Names")
  nu : NoAttr K (He.ga K "Names") "used"
  nk : NoAttr K (He.ga K "Names") "known"
  nm : NoAttr K (He.ga K "Names") "made"
def srF (du dk : Addr) (j : Int) : List (Str × V) := [("used", .ref du), ("known", .ref dk), ("made", .int j)]
/-- a source at s, its two dicts at du and dk -/
structure SrR (K : PySem.W.Frag) (H : Hp) (s du dk : Addr) (S : Src) : Prop where
  obj : ∃ dx, H s = some (.ins (He.ga K "Names") dx (srF du dk (S.made : Nat)))
  used : H du = some (.dK (S.used.map encT))
  known : H dk = some (.dK (S.known.map encT))
  ne : du ≠ dk
/-- all but the source and its dict stays -/
def Ks (s du : Addr) (H H' : Hp) : Prop := ∀ b o, H b = some o → b ≠ s → b ≠ du → H' b = some o
theorem Ks.refl (s du : Addr) (H : Hp) : Ks s du H H := fun _ _ e _ _ => e
theorem Ks.of {s du : Addr} {H H' : Hp} (k : Same H H') : Ks s du H H' := fun b o e _ _ => k b o e
theorem Ks.trans {s du : Addr} {H H1 H2 : Hp} (a : Ks s du H H1) (b : Ks s du H1 H2) : Ks s du H H2 := fun c o e n m => b c o (a c o e n m) n m
/-- all but instances and dicts stays -/
def Kj (H H' : Hp) : Prop := ∀ b o, H b = some o → (∀ C dx fs, o ≠ .ins C dx fs) → (∀ kvs, o ≠ .dK kvs) → H' b = some o
section
variable {K : PySem.W.Frag} {H H' : Hp}
theorem SrR.kj {s du dk : Addr} {S : Src} (r : SrR K H s du dk S) (k : Ks s du H H') : Kj H H' := fun b o e n m => by
  obtain ⟨dx, h1⟩ := r.obj
  exact k b o e (fun z => by rw [z, h1] at e; cases e; exact n _ _ _ rfl) fun z => by rw [z, r.used] at e; cases e; exact m _ rfl
theorem SrR.same {s du dk : Addr} {S : Src} (r : SrR K H s du dk S) (k : Same H H') : SrR K H' s du dk S := by
  obtain ⟨dx, h1⟩ := r.obj
  exact ⟨⟨dx, k _ _ h1⟩, k _ _ r.used, k _ _ r.known, r.ne⟩
theorem SqT.kj {a : Addr} {xs : List V} (k : Kj H H') (h : SqT K H a xs) : SqT K H' a xs := by
  rcases h with (h | ⟨o, h⟩) | h
  · exact .inl (.inl (k _ _ h (fun _ _ _ z => nomatch z) (fun _ z => nomatch z)))
  · exact .inl (.inr ⟨o, k _ _ h (fun _ _ _ z => nomatch z) (fun _ z => nomatch z)⟩)
  · exact .inr h
theorem SqL.kj {a : Addr} {xs : List V} (k : Kj H H') (h : SqL K H a xs) : SqL K H' a xs := by
  rcases h with (h | ⟨o, h⟩) | h
  · exact .inl (.inl (k _ _ h (fun _ _ _ z => nomatch z) (fun _ z => nomatch z)))
  · exact .inl (.inr ⟨o, k _ _ h (fun _ _ _ z => nomatch z) (fun _ z => nomatch z)⟩)
  · exact .inr h
mutual
theorem Dp.kj (k : Kj H H') : ∀ {v : V} {t : PyData}, Dp K H v t → Dp K H' v t
  | _, _, .non => .non
  | _, _, .bl b => .bl b
  | _, _, .int i => .int i
  | _, _, .str x => .str x
  | _, _, .lst h t => .lst (SqL.kj k h) (DpAll.kj k t)
  | _, _, .tup h t => .tup (SqT.kj k h) (DpAll.kj k t)
theorem DpAll.kj (k : Kj H H') : ∀ {vs : List V} {ts : List PyData}, DpAll K H vs ts → DpAll K H' vs ts
  | _, _, .nil => .nil
  | _, _, .cons h t => .cons (Dp.kj k h) (DpAll.kj k t)
end
end
/-- what the source does with one known name -/
def spInstead (K : PySem.W.Frag) : Sp := fun vs H Q _ => ∃ (s du dk : Addr) (S : Src) (u : Str) (t : Nat), vs = [.ref s, .str u] ∧ SrR K H s du dk S ∧ S.Bd t ∧ t < 20000 ∧ Nm u ∧ u ∈ S.known ∧ (∀ x, x ∈ S.used → x ∈ S.known) ∧
  ∀ (H' : Hp) (S' : Src) (r : Str), SrR K H' s du dk S' → Ks s du H H' → Gv S r S' → (∀ x, x ∈ S'.used → x ∈ S'.known) → Q (.str r) H'
def spFresh (K : PySem.W.Frag) : Sp := fun vs H Q _ => ∃ (s du dk : Addr) (S : Src) (t : Nat), vs = [.ref s] ∧ SrR K H s du dk S ∧ S.Bd t ∧ t < 20000 ∧ (∀ x, x ∈ S.used → x ∈ S.known) ∧
  ∀ (H' : Hp) (S' : Src) (r : Str), SrR K H' s du dk S' → Ks s du H H' → Gv S r S' → (∀ x, x ∈ S'.used → x ∈ S'.known) → Q (.str r) H'
def spSrcInit (K : PySem.W.Frag) : Sp := fun vs H Q _ => ∃ (s dx a e : Addr) (bs ks : List Str), vs = [.ref s, .ref a, .ref e] ∧ H s = some (.ins (He.ga K "Names") dx []) ∧ SqL K H a (bs.map V.str) ∧ H e = some (.dK (ks.map encT)) ∧ bs.Nodup ∧ ks.Nodup ∧ bs.length ≤ 20000 ∧ ks.length ≤ 20000 ∧
  ∀ (H' : Hp) (du dk : Addr) (S : Src), SrR K H' s du dk S → (∀ b o, H b = some o → b ≠ s → b ≠ e → H' b = some o) → H du = none → S.used.Nodup → S.used.length ≤ bs.length → (∀ x, x ∈ S.used ↔ x ∈ bs) → S.known.length ≤ ks.length → (∀ x, x ∈ S.known ↔ x ∈ ks) → S.made = 0 → Q .non H'
theorem small20 {n : Nat} (h : n ≤ 20000) : n < sizeLine := Nat.lt_of_le_of_lt h (by show 20000 < sizeLine; decide)
section
variable {P : Program} {w : World} {K : PySem.W.Frag} {mg : Str → Option Value} {base : Heap}
theorem sc_n_init : FnScope ["self", "barred", "known", "name"] ["self", "barred", "known"] (defScope (inClass (top 55) 0)) := ⟨rfl, rfl, rfl, by decide +kernel, rfl, by decide +kernel, by decide +kernel⟩
theorem has_n_init (D : DefM K "Names" "__init__" "Names.__init__" ["self", "barred", "known"] (inClass (top 55) 0)) (ND : NdC K) : HasM P w K mg base 1 "Names" "__init__" ["self", "barred", "known"] (spSrcInit K) := D.has fun f fd F => by
  refine F.ok sc_n_init (fun vs H Q E h => ?_) (fun cdv A outer s H vs Q E hr h => ?_)
  · obtain ⟨s, dx, a, e, bs, ks, rfl, _⟩ := h; rfl
  · obtain ⟨s, dx, a, e, bs, ks, rfl, h1, hA, hE, ndb, ndk, lb, lk, q⟩ := h
    refine ⟨_, PSs.nox (pss_cons (ps_fld (pv 0) (pe_dc rfl sc_n_init.nd (pi_list (pv 1)) (own := [("name", 3)]) (blkOk_by (N := ["self", "barred", "known", "name"]) (sc := defScope (inClass (top 55) 0)) (by decide +kernel)) (fun _ _ _ _ _ => (pg_name (i := 3) sc_n_init.nd rfl (Or.inl rfl))) (fun _ _ _ _ _ => pts_nil) (fun _ _ _ _ _ => (pv 3)) (fun _ _ _ _ _ => pe_bl)) rfl) (pss_cons (ps_fld (pv 0) (pe_dc rfl sc_n_init.nd (pi_keys (pe_frz (pv 2))) (own := [("name", 3)]) (blkOk_by (N := ["self", "barred", "known", "name"]) (sc := defScope (inClass (top 55) 0)) (by decide +kernel)) (fun _ _ _ _ _ => (pg_name (i := 3) sc_n_init.nd rfl (Or.inl rfl))) (fun _ _ _ _ _ => pts_nil) (fun _ _ _ _ _ => (pv 3)) (fun _ _ _ _ _ => pe_bl)) rfl) (pss_one (ps_fld (pv 0) pe_int rfl)))), ?_⟩
    refine ⟨_, rfl, a, rfl, ⟨_, hA⟩, fun c nc => ?_⟩
    have nes : e ≠ s := fun z => by rw [z, h1] at hE; cases hE
    refine dc_it (walk_list (K := K) (a := a) (xs := bs.map V.str)) (fun i H2 => Same H H2 ∧ ∃ l : List Str, H2 c = some (.dK (l.map encT)) ∧ l.Nodup ∧ (∀ x, x ∈ l ↔ x ∈ bs.take i) ∧ l.length ≤ i) ⟨same_upd nc, [], upd_same, List.nodup_nil, fun x => by simp, Nat.le_refl _⟩ (fun i H2 _ ⟨s2, _⟩ => s2.seq hA) ?_ ?_
    · rintro i z H2 H3 hi ⟨s2, l, hc2, nd, ml, ll⟩ ⟨rfl, hz⟩
      obtain ⟨x, hx, rfl⟩ := get_map hz
      rw [List.length_map] at hi
      obtain ⟨m, em, ndm, mm, lm⟩ := put_encT (l := l) (x := x)
      refine ⟨rfl, _, rfl, _, Sum.inr x, rfl, hc2, by rw [List.length_map]; exact small20 (by omega), fun b o eb => ?_, m, by rw [upd_same, em], ndm nd, fun y => ?_, by omega⟩
      · rw [upd_ne (ne_of_none eb nc)]
        exact s2 _ _ eb
      · rw [mm, ml, List.take_add_one, hx, List.mem_append]
        simp
    · rintro H2 ⟨s2, us, hc2, nd2, ml2, ll2⟩
      rw [List.length_map] at ll2 ml2
      rw [List.take_length] at ml2
      have ncs : c ≠ s := fun z => by rw [z, h1] at nc; cases nc
      have nce : c ≠ e := fun z => by rw [z, hE] at nc; cases nc
      refine ⟨_, rfl, s, _, dx, _, rfl, s2 _ _ h1, ND.cls, ND.nu, (by show 0 < 1000; decide), ?_⟩
      refine ⟨_, rfl, e, .dK (ks.map encT), (by rw [upd_ne nes]; exact s2 _ _ hE), trivial, fun od => ?_⟩
      obtain ⟨H4, e4⟩ : ∃ H4, H4 = upd (upd H2 s (.ins (He.ga K "Names") dx (putF "used" (.ref c) []))) e (.frz od (.dK (ks.map encT))) := ⟨_, rfl⟩
      have hs4 : H4 s = some (.ins (He.ga K "Names") dx [("used", .ref c)]) := by rw [e4, upd_ne nes.symm, upd_same]; rfl
      have hc4 : H4 c = some (.dK (us.map encT)) := by rw [e4, upd_ne nce, upd_ne ncs]; exact hc2
      have he4 : H4 e = some (.frz od (.dK (ks.map encT))) := by rw [e4, upd_same]
      have keep4 : ∀ b o, H b = some o → b ≠ s → b ≠ e → H4 b = some o := fun b o eb n1 n2 => by rw [e4, upd_ne n2, upd_ne n1]; exact s2 _ _ eb
      rw [← e4]
      clear e4 s2 hc2
      refine ⟨e, od, rfl, .inl ⟨_, he4, fun c2 nc2 => ?_⟩⟩
      have n2s : c2 ≠ s := fun z => by rw [z, hs4] at nc2; cases nc2
      have n2c : c2 ≠ c := fun z => by rw [z, hc4] at nc2; cases nc2
      refine dc_it walk_keys (fun i H5 => Same H4 H5 ∧ ∃ l : List Str, H5 c2 = some (.dK (l.map encT)) ∧ l.Nodup ∧ (∀ x, x ∈ l ↔ x ∈ ks.take i) ∧ l.length ≤ i) ⟨same_upd nc2, [], upd_same, List.nodup_nil, fun x => by simp, Nat.le_refl _⟩ (fun i H5 _ ⟨s5, _⟩ => s5 _ _ he4) ?_ ?_
      · rintro i z H5 H6 hi ⟨s5, l, hc5, nd, ml, ll⟩ ⟨rfl, kk, vv, hkv, rfl⟩
        obtain ⟨x, hx, ep⟩ := get_map hkv
        have ek : kk = Sum.inr x := congrArg Prod.fst ep
        subst ek
        rw [List.length_map] at hi
        obtain ⟨m, em, ndm, mm, lm⟩ := put_encT (l := l) (x := x)
        refine ⟨rfl, _, rfl, _, Sum.inr x, rfl, hc5, by rw [List.length_map]; exact small20 (by omega), fun b o eb => ?_, m, by rw [upd_same, em], ndm nd, fun y => ?_, by omega⟩
        · rw [upd_ne (ne_of_none eb nc2)]
          exact s5 _ _ eb
        · rw [mm, ml, List.take_add_one, hx, List.mem_append]
          simp
      · rintro H5 ⟨s5, kl, hc5, nd5, ml5, ll5⟩
        rw [List.length_map] at ll5 ml5
        rw [List.take_length] at ml5
        refine ⟨_, rfl, s, _, dx, _, rfl, s5 _ _ hs4, ND.cls, ND.nk, (by show 1 < 1000; decide), ?_⟩
        refine ⟨_, rfl, s, _, dx, _, rfl, upd_same, ND.cls, ND.nm, (by show 2 < 1000; decide), ?_⟩
        have fin : ∀ b o, b ≠ s → H5 b = some o → (upd (upd H5 s (.ins (He.ga K "Names") dx (putF "known" (.ref c2) [("used", .ref c)]))) s (.ins (He.ga K "Names") dx (putF "made" (.int 0) (putF "known" (.ref c2) [("used", .ref c)])))) b = some o := fun b o n e => by
          rw [upd_ne n, upd_ne n]
          exact e
        exact q _ c c2 ⟨us, kl, 0⟩ ⟨⟨dx, by rw [upd_same]; rfl⟩, fin _ _ ncs (s5 _ _ hc4), fin _ _ n2s hc5, n2c.symm⟩ (fun b o eb n1 n2 => fin _ _ n1 (s5 _ _ (keep4 b o eb n1 n2))) nc nd2 ll2 ml2 ll5 ml5 rfl
theorem upd_twice {H : Hp} {a : Addr} {o o' : HO} : upd (upd H a o) a o' = upd H a o' := by
  funext b
  by_cases e : b = a
  · rw [e, upd_same, upd_same]
  · rw [upd_ne e, upd_ne e, upd_ne e]
theorem sc_n_fresh : FnScope ["self", "name"] ["self"] (defScope (inClass (top 55) 1)) := ⟨rfl, rfl, rfl, by decide +kernel, rfl, by decide +kernel, by decide +kernel⟩
theorem has_n_fresh (D : DefM K "Names" "fresh" "Names.fresh" ["self"] (inClass (top 55) 1)) (ND : NdC K) : HasM P w K mg base 1 "Names" "fresh" ["self"] (spFresh K) := D.has fun f fd F => by
  refine F.ok sc_n_fresh (fun vs H Q E h => ?_) (fun cdv A outer s H vs Q E hr h => ?_)
  · obtain ⟨s, du, dk, S, t, rfl, _⟩ := h; rfl
  · obtain ⟨s, du, dk, S, t, rfl, r, bd, t2, sub, q⟩ := h
    refine ⟨_, PSs.nox (pss_one (ps_while PassesOwn.never (pt_val pe_bl) (pss_cons (ps_fldaug (pv 0) pe_int in_add) (pss_cons (ps_set (i := 1) sc_n_fresh.nd rfl (Or.inl rfl) (pe_joined (.cons pe_str (.cons (pe_fmt (pe_fld (pv 0) rfl)) .nil)))) (pss_one (ps_if (PW.pt (pw_and (pt_cmp (pc_dnotin (hu_of hr) (pv 1) (pe_fld (pv 0) rfl))) (pw_and1 (pt_cmp (pc_dnotin (hu_of hr) (pv 1) (pe_fld (pv 0) rfl)))))) (pss_one (ps_ret (pv 1))) pss_nil)))))), ?_⟩
    obtain ⟨⟨dx, hs⟩, hu, hk, ne⟩ := r
    obtain ⟨j, j1, j2, ⟨ju, jk⟩, mid⟩ := next_made S.used S.known S.made
    have nus : du ≠ s := fun z => by rw [z, hs] at hu; cases hu
    have nks : dk ≠ s := fun z => by rw [z, hs] at hk; cases hk
    have jb : j ≤ 50000 * (t + 1) := by
      have := bd.lm
      have := bd.lu
      have := bd.lk
      omega
    refine st_while (fun m σ H2 => ∃ (i : Nat) (y : Option V), m = j - i ∧ S.made ≤ i ∧ i < j ∧ σ = [some (.ref s), y] ∧ H2 s = some (.ins (He.ga K "Names") dx (srF du dk (i : Nat))) ∧ (∀ b o, H b = some o → b ≠ s → H2 b = some o)) (fun _ _ => False) (j - S.made) ⟨S.made, none, rfl, Nat.le_refl _, j1, rfl, hs, fun b o eb _ => eb⟩ (fun m σ H2 _ Q hq => ⟨true, rfl, hq⟩) (fun _ _ z => z.elim) ?_
    rintro N Bk m σ H2 ⟨i, y, rfl, i1, i2, rfl, hs2, keep⟩ hN hB
    refine ⟨_, rfl, s, _, dx, _, _, rfl, hs2, ND.cls, ND.nm, rfl, _, _, rfl, rfl, dx, _, hs2, (by show 3 < 1000; decide), ?_⟩
    obtain ⟨H3, e3⟩ : ∃ H3, H3 = upd H2 s (.ins (He.ga K "Names") dx (srF du dk ((i + 1 : Nat) : Int))) := ⟨_, rfl⟩
    have hs3 : H3 s = some (.ins (He.ga K "Names") dx (srF du dk ((i + 1 : Nat) : Int))) := by rw [e3, upd_same]
    have keep3 : ∀ b o, H b = some o → b ≠ s → H3 b = some o := fun b o eb n => by rw [e3, upd_ne n]; exact keep b o eb n
    have hu3 := keep3 _ _ hu nus
    have hk3 := keep3 _ _ hk nks
    have small : (i + 1) < 2 ^ 40 := by omega
    have lg : ((i : Int) + 1).natAbs.log2 < 1920 := by
      have e : ((i : Int) + 1).natAbs = i + 1 := by omega
      rw [e]
      exact Nat.lt_of_lt_of_le ((Nat.log2_lt (by omega)).mpr small) (by decide)
    have ln : (vN (i + 1)).length ≤ sizeLine := Nat.le_trans (vN_nm (k := i + 1) (by omega)).hi (by show 12 ≤ sizeLine; decide)
    have ej : (Str.empty ++ ("v" : Str)) ++ (toString ((i : Int) + 1) : Str) = vN (i + 1) := by
      rw [show ((i : Int) + 1) = ((i + 1 : Nat) : Int) by omega]
      rfl
    show _
    rw [show (upd H2 s (.ins (He.ga K "Names") dx (putF "made" (.int ((i : Int) + 1)) (srF du dk (i : Nat))))) = H3 from e3.symm]
    refine ⟨"v", rfl, (by show 1 ≤ sizeLine; decide), _, rfl, s, _, dx, _, _, rfl, hs3, ND.cls, ND.nm, rfl, .inr ⟨(i : Int) + 1, rfl, lg, _, rfl, (by rw [ej]; exact ln), ?_⟩⟩
    show (fun w : Str => _) ((Str.empty ++ ("v" : Str)) ++ (toString ((i : Int) + 1) : Str))
    rw [ej]
    refine ⟨_, rfl, _, rfl, s, _, dx, _, _, rfl, hs3, ND.cls, ND.nu, rfl, du, _, rfl, DGet.k (k := Sum.inr (vN (i + 1))) hu3, _, rfl, ?_⟩
    have keepS : Ks s du H H3 := fun b o eb n _ => keep3 b o eb n
    by_cases cu : vN (i + 1) ∈ S.used
    · have ne2 : i + 1 ≠ j := fun z => ju (z ▸ cu)
      refine cF (k := !(valV (S.used.map encT) (Sum.inr (vN (i + 1)))).isSome) (by rw [val_encT, if_pos cu]; rfl) ?_
      exact iteF (hN (j - (i + 1)) _ _ (by omega) ⟨i + 1, _, rfl, by omega, by omega, rfl, hs3, keep3⟩)
    · refine cT (k := !(valV (S.used.map encT) (Sum.inr (vN (i + 1)))).isSome) (by rw [val_encT, if_neg cu]; rfl) ?_
      refine ⟨_, rfl, _, rfl, s, _, dx, _, _, rfl, hs3, ND.cls, ND.nk, rfl, dk, _, rfl, DGet.k (k := Sum.inr (vN (i + 1))) hk3, _, rfl, ?_⟩
      by_cases ck : vN (i + 1) ∈ S.known
      · have ne2 : i + 1 ≠ j := fun z => jk (z ▸ ck)
        refine cF (k := !(valV (S.known.map encT) (Sum.inr (vN (i + 1)))).isSome) (by rw [val_encT, if_pos ck]; rfl) ?_
        exact hN (j - (i + 1)) _ _ (by omega) ⟨i + 1, _, rfl, by omega, by omega, rfl, hs3, keep3⟩
      · refine cT (k := !(valV (S.known.map encT) (Sum.inr (vN (i + 1)))).isSome) (by rw [val_encT, if_neg ck]; rfl) ?_
        have ej2 : i + 1 = j := by
          by_cases z : i + 1 = j
          · exact z
          · exact absurd ⟨cu, ck⟩ (mid (i + 1) (by omega) (by omega))
        subst ej2
        exact ⟨_, rfl, q H3 ⟨S.used, S.known, i + 1⟩ _ ⟨⟨dx, hs3⟩, hu3, hk3, ne⟩ keepS (gv_made j1 j2 ju jk mid (fun x a b => b (sub _ a)) bd (by omega)) sub⟩
theorem sc_n_instead : FnScope ["self", "name"] ["self", "name"] (defScope (inClass (top 55) 2)) := ⟨rfl, rfl, rfl, by decide +kernel, rfl, by decide +kernel, by decide +kernel⟩
theorem has_n_instead (D : DefM K "Names" "instead_of" "Names.instead_of" ["self", "name"] (inClass (top 55) 2)) (ND : NdC K) (C1 : HasM P w K mg base 1 "Names" "fresh" ["self"] (spFresh K)) : HasM P w K mg base 2 "Names" "instead_of" ["self", "name"] (spInstead K) := D.has fun f fd F => by
  obtain ⟨f1, fd1, M_fresh, hm_fresh, bm_fresh⟩ := C1
  refine F.ok sc_n_instead (fun vs H Q E h => ?_) (fun cdv A outer s H vs Q E hr h => ?_)
  · obtain ⟨s, du, dk, S, u, t, rfl, _⟩ := h; rfl
  · obtain ⟨s, du, dk, S, u, t, rfl, r, bd, t2, nm, hk, sub, q⟩ := h
    have RM_fresh : Room 1 _ := hr
    refine ⟨_, PSs.nox (pss_cons (ps_if (pt_cmp (pc_din (hu_of hr) (pv 1) (pe_fld (pv 0) rfl))) (pss_one (ps_ret (pe_meth0 (pv 0) ND.cls hm_fresh M_fresh RM_fresh bm_fresh .nil pass0))) pss_nil) (pss_cons (ps_dput (hu_of hr) (pe_fld (pv 0) rfl) (pv 1) pe_bl rfl) (pss_one (ps_ret (pv 1))))), ?_⟩
    obtain ⟨dx, hs⟩ := id r.obj
    refine ⟨_, rfl, _, rfl, s, _, dx, _, _, rfl, hs, ND.cls, ND.nu, rfl, du, _, rfl, DGet.k (k := Sum.inr u) r.used, _, rfl, ?_⟩
    by_cases cu : u ∈ S.used
    · refine cT (k := (valV (S.used.map encT) (Sum.inr u)).isSome) (by rw [val_encT, if_pos cu]; rfl) ?_
      exact ⟨_, rfl, s, dx, _, rfl, hs, rfl, s, du, dk, S, t, rfl, r, bd, t2, sub, fun H' S' x r' k' g s' => q H' S' x r' k' g s'⟩
    · refine cF (k := (valV (S.used.map encT) (Sum.inr u)).isSome) (by rw [val_encT, if_neg cu]; rfl) ?_
      obtain ⟨m, em, ndm, mm, lm⟩ := put_encT (l := S.used) (x := u)
      have nus : du ≠ s := fun z => by have e := r.used; rw [z, hs] at e; cases e
      refine ⟨_, rfl, s, _, dx, _, _, rfl, hs, ND.cls, ND.nu, rfl, _, rfl, du, _, rfl, DPut.k (k := Sum.inr u) r.used (by rw [List.length_map]; exact small20 (by have := bd.lu; omega)), ?_⟩
      refine ⟨_, rfl, q _ ⟨m, S.known, S.made⟩ u ⟨⟨dx, by rw [upd_ne nus.symm]; exact hs⟩, by rw [upd_same, em], by rw [upd_ne r.ne.symm]; exact r.known, r.ne⟩ (fun b o eb n1 n2 => by rw [upd_ne n2]; exact eb) (gv_same cu hk nm ndm mm lm) fun x hx => ?_⟩
      rcases (mm x).mp hx with z | z
      · exact sub x z
      · rw [z]; exact hk
end
/-! ### a formula with other formulas in it -/
theorem Dp.hd {K : PySem.W.Frag} {H : Hp} {a : Addr} {h : Hd} {xs : List V} {ds : List PyData} (e : SqT K H a (.str h.word :: xs)) (t : DpAll K H xs (h.rest ds)) : Dp K H (.ref a) (h.data ds) := .tup e (.cons (.str _) t)
theorem slA_take {K : PySem.W.Frag} {H : Hp} {a : Addr} {xs : List V} {j : Nat} {Q : VK} (hx : SqT K H a xs) (l : xs.length < 1000) (hj : j ≤ xs.length) (q : ∀ (H' : Hp) (r : Addr), Same H H' → SqT K H' r (xs.take j) → Q (.ref r) H') : rSlA K (.ref a) none (some ((j : Nat) : Int)) H Q := by
  refine ⟨a, xs, rfl, hx, fun e => ?_, fun _ p np => ?_⟩
  · have e2 := e.2
    rw [HT.sIx_nat] at e2
    have : j = xs.length := by omega
    refine q H a (.refl H) ?_
    rw [this, List.take_length]
    exact hx
  · refine q _ p (same_upd np) ?_
    rw [cut_map l hj]
    exact SqT.of upd_same
theorem cut_drop {xs : List V} {j : Nat} (hj : j ≤ xs.length) : cutV xs (some ((j : Nat) : Int)) none = xs.drop j := by
  unfold cutV
  rw [HT.sIx_nat, HT.sIx_none, Nat.min_eq_left hj]
  exact List.take_of_length_le (by rw [List.length_drop]; exact Nat.le_refl _)
theorem slA_drop {K : PySem.W.Frag} {H : Hp} {a : Addr} {xs : List V} {j : Nat} {Q : VK} (hx : SqT K H a xs) (hj : j ≤ xs.length) (q : ∀ (H' : Hp) (r : Addr), Same H H' → SqT K H' r (xs.drop j) → Q (.ref r) H') : rSlA K (.ref a) (some ((j : Nat) : Int)) none H Q := by
  refine ⟨a, xs, rfl, hx, fun e => ?_, fun _ p np => ?_⟩
  · have e1 := e.1
    rw [HT.sIx_nat] at e1
    refine q H a (.refl H) ?_
    by_cases h0 : j = 0
    · rw [h0]
      exact hx
    · have l0 : xs.length = 0 := by omega
      rw [List.eq_nil_of_length_eq_zero l0, List.drop_nil]
      rw [List.eq_nil_of_length_eq_zero l0] at hx
      exact hx
  · refine q _ p (same_upd np) ?_
    rw [cut_drop hj]
    exact SqT.of upd_same
theorem catA {K : PySem.W.Frag} {H : Hp} {a b : Addr} {xs ys : List V} {Q : VK} (ha : SqT K H a xs) (hb : SqT K H b ys) (l : xs.length + ys.length ≤ 1000) (q : ∀ (H' : Hp) (r : Addr), Same H H' → SqT K H' r (xs ++ ys) → Q (.ref r) H') : rCatA K (.ref a) (.ref b) H Q := by
  refine ⟨a, b, xs, ys, rfl, rfl, ha, hb, Nat.le_trans l (by show 1000 ≤ sizeLine; decide), fun e => ?_, fun _ e => ?_, fun _ _ p np => q _ p (same_upd np) (SqT.of upd_same)⟩
  · refine q H b (.refl H) ?_
    rw [e]
    exact hb
  · refine q H a (.refl H) ?_
    rw [e, List.append_nil]
    exact ha
theorem DpAll.dropN {K : PySem.W.Frag} {H : Hp} : ∀ {vs : List V} {ts : List PyData} (j : Nat), DpAll K H vs ts → DpAll K H (vs.drop j) (ts.drop j)
  | _, _, 0, h => h
  | _, _, j + 1, .nil => .nil
  | _, _, j + 1, .cons a t => DpAll.dropN j t
def put {α : Type} (l : List α) (i : Nat) (x : α) : List α := l.take i ++ [x] ++ l.drop (i + 1)
theorem DpAll.put {K : PySem.W.Frag} {H : Hp} {vs : List V} {ts : List PyData} {v : V} {t : PyData} (i : Nat) (h : DpAll K H vs ts) (e : Dp K H v t) : DpAll K H (put vs i v) (put ts i t) :=
  DpAll.append (DpAll.append (DpAll.takeN i h) (.cons e .nil)) (DpAll.dropN (i + 1) h)
theorem body_put {h : Hd} {i : Nat} (e : h.kd.bodyAt = some i) (d d' : PyData) : put (PyData.str h.word :: h.rest [d]) i d' = PyData.str h.word :: h.rest [d'] := by
  cases h <;> first | (cases e; rfl) | cases e
theorem body_at {h : Hd} {i : Nat} (e : h.kd.bodyAt = some i) (d : PyData) : (PyData.str h.word :: h.rest [d])[i]? = some d ∧ 1 ≤ i ∧ i + 1 ≤ (h.rest [d]).length + 1 ∧ (h.rest [d]).length ≤ 5 := by
  cases h <;> first | (cases e; exact ⟨rfl, by decide, by show _ ≤ List.length _ + 1; simp [Hd.rest], by simp [Hd.rest]⟩) | cases e
def spWithItem (K : PySem.W.Frag) : Sp := fun vs H Q _ => ∃ (a : Addr) (i : Nat) (x : V) (xs : List V), vs = [.ref a, .int (i : Nat), x] ∧ SqT K H a xs ∧ i + 1 ≤ xs.length ∧ xs.length ≤ 10 ∧ ∀ (H' : Hp) (r : Addr), Same H H' → SqT K H' r (put xs i x) → Q (.ref r) H'
def spWithInner (K : PySem.W.Frag) : Sp := fun vs H Q _ => ∃ (v : V) (h : Hd) (ds es : List PyData) (b : Addr) (ys : List V), vs = [v, .ref b] ∧ Dp K H v (h.data ds) ∧ h.fits ds.length ∧ SqL K H b ys ∧ DpAll K H ys es ∧ es.length = ds.length ∧ ∀ (H' : Hp) (r : V), Same H H' → Dp K H' r (h.data es) → Q r H'
section
variable {P : Program} {w : World} {K : PySem.W.Frag} {mg : Str → Option Value} {base : Heap}
theorem sc_with_item : FnScope ["formula", "at", "item"] ["formula", "at", "item"] (defScope (top 35)) := ⟨rfl, rfl, rfl, by decide +kernel, rfl, by decide +kernel, by decide +kernel⟩
theorem has_with_item (D : Def K mg "_with_item" ["formula", "at", "item"] (top 35)) : Has P w K mg base 1 "_with_item" ["formula", "at", "item"] (spWithItem K) := D.has fun f fd F => by
  refine F.ok sc_with_item (fun vs H Q E h => ?_) (fun cdv A outer s H vs Q E hr h => ?_)
  · obtain ⟨a, i, x, xs, rfl, _⟩ := h; rfl
  · obtain ⟨a, i, x, xs, rfl, hT, hi, hl, q⟩ := h
    refine ⟨_, PSs.nox (pss_one (ps_ret (pe_op op_catA (pe_op op_catA (pe_slice sl_tupA (pv 0) po_none (po_some (pv 1))) (pe_tup (pa_cons (pv 2) pa_nil))) (pe_slice sl_tupA (pv 0) (po_some (pe_op op_add (pv 1) pe_int)) po_none)))), ?_⟩
    refine ⟨_, rfl, _, rfl, _, rfl, slA_take hT (by omega) (by omega) fun H1 r1 s1 h1 => ?_⟩
    refine ⟨_, rfl, (by show 1 ≤ sizeLine; decide), fun p np => ?_⟩
    have sp := same_upd (o := .tup [x]) np
    refine catA (Same.sqt sp h1) (SqT.of upd_same) (by rw [List.length_take]; show min i xs.length + 1 ≤ 1000; omega) fun H2 r2 s2 h2 => ?_
    have s02 := (s1.trans sp).trans s2
    refine ⟨_, rfl, _, rfl, _, _, rfl, rfl, ((i + 1 : Nat) : Int), rfl, ?_⟩
    have z : rSlA K (.ref a) (some ((i + 1 : Nat) : Int)) none H2 (fun y H3 => rCatA K (.ref r2) y H3 Q) := slA_drop (j := i + 1) (Same.sqt s02 hT) hi fun H3 r3 s3 h3 =>
      catA (Same.sqt s3 h2) h3 (by rw [List.length_append, List.length_take, List.length_drop]; show min i xs.length + 1 + _ ≤ 1000; omega) fun H4 r4 s4 h4 => q H4 r4 ((s02.trans s3).trans s4) h4
    exact z
theorem sc_with_inner : FnScope ["formula", "changed"] ["formula", "changed"] (defScope (top 36)) := ⟨rfl, rfl, rfl, by decide +kernel, rfl, by decide +kernel, by decide +kernel⟩
theorem has_with_inner (D : Def K mg "with_inner" ["formula", "changed"] (top 36)) (T : Txt mg) (S : Shp K w mg) (C1 : Has P w K mg base 1 "_with_item" ["formula", "at", "item"] (spWithItem K)) : Has P w K mg base 2 "with_inner" ["formula", "changed"] (spWithInner K) := D.has fun f fd F => by
  obtain ⟨f1, fd1, G_with_item, g_with_item, k_with_item, b_with_item⟩ := C1
  have c_BODY_AT := S.body.g
  obtain ⟨es0, n, D_BODY_AT⟩ := S.body.d
  refine F.ok sc_with_inner (fun vs H Q E h => ?_) (fun cdv A outer s H vs Q E hr h => ?_)
  · obtain ⟨v, h, ds, es, b, ys, rfl, _⟩ := h; rfl
  · obtain ⟨v, h, ds, es, b, ys, rfl, dp, fit, hb, hy, el, q⟩ := h
    have R_with_item : Room 1 _ := hr
    refine ⟨_, PSs.nox (pss_cons (ps_if (pt_cmpR op_in_seq (pe_ix ix_tup (pv 0) pe_int (fun _ _ => rfl)) (pe_tup (pa_cons pe_str (pa_cons pe_str pa_nil))) (by rfl)) (pss_one (ps_ret (pe_tup (pa_cons (pe_ix ix_tup (pv 0) pe_int (fun _ _ => rfl)) (pa_cons (pe_callTy call_tuple_of (by rfl) T.n_tuple (by decide +kernel) (pa_cons (pv 1) pa_nil)) pa_nil))))) pss_nil) (pss_cons (ps_if (pt_cmpR (op_in_kd D_BODY_AT) (pe_ix ix_tup (pv 0) pe_int (fun _ _ => rfl)) (pe_glob (v := .ref (He.ga K "BODY_AT")) (by rfl) c_BODY_AT rfl) (by rfl)) (pss_one (ps_ret (pe_call G_with_item R_with_item (by rfl) g_with_item k_with_item b_with_item .nil pass0 (pa_cons (pv 0) (pa_cons (pe_ix ix_kdict (pe_glob (v := .ref (He.ga K "BODY_AT")) (by rfl) c_BODY_AT rfl) (pe_ix ix_tup (pv 0) pe_int (fun _ _ => rfl)) (fun _ _ => rfl)) (pa_cons (pe_ix ix_list (pv 1) pe_int (fun _ _ => rfl)) pa_nil)))))) pss_nil) (pss_one (ps_ret (pv 0))))), ?_⟩
    obtain ⟨a, xs, rfl, hT, hx⟩ := hd_inv dp
    refine ⟨_, rfl, a, _, _, _, rfl, rfl, hT, atI_nat (j := 0) rfl, (by show 2 ≤ sizeLine; decide), fun p np => ⟨p, _, rfl, .inr (SqT.of upd_same), rfl, rfl, _, rfl, ?_⟩⟩
    have sp : Same H (upd H p (.tup [.str "and", .str "or"])) := same_upd np
    have hT1 := Same.sqt sp hT
    have hb1 : SqL K (upd H p (.tup [.str "and", .str "or"])) b ys := sp.seq hb
    have dp1 : DpAll K (upd H p (.tup [.str "and", .str "or"])) xs (h.rest ds) := DpAll.same sp hx
    have hy1 : DpAll K (upd H p (.tup [.str "and", .str "or"])) ys es := DpAll.same sp hy
    clear hT hb hx hy
    revert sp hT1 hb1 dp1 hy1
    generalize upd H p (.tup [.str "and", .str "or"]) = H1
    intro sp hT1 hb1 dp1 hy1
    by_cases j : inV (.str h.word) [.str "and", .str "or"] = true
    · refine cT j ?_
      have e : h.rest es = [.tuple es] := by rcases isJ h j with e | e <;> rw [e] <;> rfl
      refine ⟨_, rfl, a, _, _, _, rfl, rfl, hT1, atI_nat (j := 0) rfl, _, rfl, b, _, rfl, .inl ⟨hb1, fun l nl => ⟨(by show 2 ≤ sizeLine; decide), fun r nr => ?_⟩⟩⟩
      have s2 := same_upd (o := .tup ys) nl
      have s3 := same_upd (o := .tup [.str h.word, .ref l]) nr
      refine q _ _ ((sp.trans s2).trans s3) (Dp.hd (SqT.of upd_same) ?_)
      rw [e]
      exact .cons (.tup (Same.sqt s3 (SqT.of upd_same)) (DpAll.same (s2.trans s3) hy1)) .nil
    · have j' : inV (.str h.word) [.str "and", .str "or"] = false := by simpa using j
      refine cF j' ?_
      have nj := isJ' h j'
      refine ⟨_, rfl, a, _, _, _, rfl, rfl, hT1, atI_nat (j := 0) rfl, ?_⟩
      cases hbd : h.kd.bodyAt with
      | some i =>
        have mem := body_mem _ _ hbd
        obtain ⟨u, n1, ru⟩ := S.body.there _ _ mem
        refine ⟨_, _, rfl, rfl, n1, _, rfl, cT (k := (some u).isSome) rfl ?_⟩
        have l1 : ds.length = 1 := fit 1 (by cases h <;> first | cases hbd; rfl | cases hbd)
        obtain ⟨d, rfl⟩ := List.length_eq_one_iff.mp l1
        obtain ⟨d', rfl⟩ := List.length_eq_one_iff.mp (el.trans l1)
        obtain ⟨y, ws, rfl, dy, hn⟩ := DpAll.cons_inv hy1
        obtain ⟨_, i1, i2, i3⟩ := body_at hbd d
        have lx := DpAll.length dp1
        refine ⟨_, rfl, _, rfl, a, _, _, _, rfl, rfl, hT1, atI_nat (j := 0) rfl, _, _, _, rfl, rfl, S.body.dct mem, _, rfl, b, _, _, _, rfl, rfl, hb1, atI_nat (j := 0) rfl, a, i, _, _, rfl, hT1, by rw [List.length_cons]; omega, by rw [List.length_cons]; omega, fun H2 r s2 hr2 => ?_⟩
        have dd := DpAll.put i (DpAll.same s2 (DpAll.cons (.str h.word) dp1)) (Dp.same s2 dy)
        rw [body_put hbd] at dd
        exact q H2 _ (sp.trans s2) (.tup hr2 dd)
      | none =>
        have mem := body_mis _ hbd
        refine ⟨_, _, rfl, rfl, S.bodyM _ mem, _, rfl, cF (k := (none : Option Value).isSome) rfl ?_⟩
        have l0 : ds.length = 0 := fit 0 (by cases h <;> first | rfl | exact absurd rfl nj.1 | exact absurd rfl nj.2 | cases hbd)
        obtain rfl := List.eq_nil_of_length_eq_zero l0
        obtain rfl := List.eq_nil_of_length_eq_zero (el.trans l0)
        exact ⟨_, rfl, q H1 _ sp (Dp.hd hT1 dp1)⟩
end
/-! ### other variables in a head -/
theorem own_put {h : Hd} {i : Nat} (e : h.kd.ownAt = some i) (us : List Str) (ds : List PyData) : put (PyData.str h.word :: h.rest ds) i (tS us) = PyData.str (h.withOwn us).word :: (h.withOwn us).rest ds ∧ i + 1 ≤ (PyData.str h.word :: h.rest ds).length := by
  cases h <;> first | (cases e; exact ⟨rfl, by simp [Hd.rest]⟩) | cases e
theorem own_none {h : Hd} (e : h.kd.ownAt = none) (us : List Str) : h.withOwn us = h := by cases h <;> first | rfl | cases e
theorem args_put {h : Hd} {i : Nat} (e : h.kd.argsAt = some i) (as : List Str) {ds : List PyData} (f : h.fits ds.length) : put (PyData.str h.word :: h.rest ds) i (tS as) = PyData.str (h.withArgs as).word :: (h.withArgs as).rest ds ∧ i + 1 ≤ (PyData.str h.word :: h.rest ds).length := by
  cases h with
  | rel n bs => cases e; exact ⟨rfl, by simp [Hd.rest]⟩
  | lfp n us bs =>
    cases e
    obtain ⟨d, rfl⟩ := List.length_eq_one_iff.mp (f 1 rfl)
    exact ⟨rfl, by simp [Hd.rest]⟩
  | pfp n us bs =>
    cases e
    obtain ⟨d, rfl⟩ := List.length_eq_one_iff.mp (f 1 rfl)
    exact ⟨rfl, by simp [Hd.rest]⟩
  | tc us bs =>
    cases e
    obtain ⟨d, rfl⟩ := List.length_eq_one_iff.mp (f 1 rfl)
    exact ⟨rfl, by simp [Hd.rest]⟩
  | _ => cases e
theorem args_none {h : Hd} (e : h.kd.argsAt = none) (n : ∀ x y, h ≠ .eq x y ∧ h ≠ .less x y) (as : List Str) : h.withArgs as = h := by
  cases h with
  | eq x y => exact absurd rfl (n x y).1
  | less x y => exact absurd rfl (n x y).2
  | rel _ _ => cases e
  | lfp _ _ _ => cases e
  | pfp _ _ _ => cases e
  | tc _ _ => cases e
  | _ => rfl
theorem one_withArgs {h : Hd} {as : List Str} (l : as.length = h.args.length) : (h.withArgs as).one = h.one := by
  cases h with
  | eq x y => obtain ⟨a, b, rfl⟩ := two_of l; rfl
  | less x y => obtain ⟨a, b, rfl⟩ := two_of l; rfl
  | _ => rfl
theorem one_withOwn {h : Hd} {us : List Str} : (h.withOwn us).one = h.one := by cases h <;> rfl
def spWithOwn (K : PySem.W.Frag) : Sp := fun vs H Q _ => ∃ (v u : V) (h : Hd) (ds : List PyData) (us : List Str), vs = [v, u] ∧ Dp K H v (h.data ds) ∧ Dp K H u (tS us) ∧ us.length = h.own.length ∧ h.fits ds.length ∧ ds.length ≤ 40 ∧ ∀ (H' : Hp) (r : V), Same H H' → Dp K H' r ((h.withOwn us).data ds) → Q r H'
def spWithArgs (K : PySem.W.Frag) : Sp := fun vs H Q _ => ∃ (v u : V) (h : Hd) (ds : List PyData) (us : List Str), vs = [v, u] ∧ Dp K H v (h.data ds) ∧ Dp K H u (tS us) ∧ us.length = h.args.length ∧ h.fits ds.length ∧ ds.length ≤ 40 ∧ ∀ (H' : Hp) (r : V), Same H H' → Dp K H' r ((h.withArgs us).data ds) → Q r H'
theorem rest_fit {h : Hd} {ds : List PyData} (f : h.fits ds.length) : (h.rest ds).length ≤ 5 := by
  cases h <;> simp only [Hd.rest, List.length_cons, List.length_nil, List.length_append] <;> first | omega | (have := f 1 rfl; omega) | (have := f 0 rfl; omega)
section
variable {P : Program} {w : World} {K : PySem.W.Frag} {mg : Str → Option Value} {base : Heap}
theorem sc_with_own : FnScope ["formula", "variables"] ["formula", "variables"] (defScope (top 38)) := ⟨rfl, rfl, rfl, by decide +kernel, rfl, by decide +kernel, by decide +kernel⟩
theorem has_with_own (D : Def K mg "with_own" ["formula", "variables"] (top 38)) (S : Shp K w mg) (C1 : Has P w K mg base 1 "_with_item" ["formula", "at", "item"] (spWithItem K)) : Has P w K mg base 2 "with_own" ["formula", "variables"] (spWithOwn K) := D.has fun f fd F => by
  obtain ⟨f1, fd1, G_with_item, g_with_item, k_with_item, b_with_item⟩ := C1
  have c_OWN_AT := S.own.g
  obtain ⟨es0, n, D_OWN_AT⟩ := S.own.d
  refine F.ok sc_with_own (fun vs H Q E h => ?_) (fun cdv A outer s H vs Q E hr h => ?_)
  · obtain ⟨v, u, h, ds, us, rfl, _⟩ := h; rfl
  · obtain ⟨v, u, h, ds, us, rfl, dp, du, lu, fit, ld, q⟩ := h
    have R_with_item : Room 1 _ := hr
    refine ⟨_, PSs.nox (pss_cons (ps_if (pt_cmpR (op_in_kd D_OWN_AT) (pe_ix ix_tup (pv 0) pe_int (fun _ _ => rfl)) (pe_glob (v := .ref (He.ga K "OWN_AT")) (by rfl) c_OWN_AT rfl) (by rfl)) (pss_one (ps_ret (pe_call G_with_item R_with_item (by rfl) g_with_item k_with_item b_with_item .nil pass0 (pa_cons (pv 0) (pa_cons (pe_ix ix_kdict (pe_glob (v := .ref (He.ga K "OWN_AT")) (by rfl) c_OWN_AT rfl) (pe_ix ix_tup (pv 0) pe_int (fun _ _ => rfl)) (fun _ _ => rfl)) (pa_cons (pv 1) pa_nil)))))) pss_nil) (pss_one (ps_ret (pv 0)))), ?_⟩
    obtain ⟨a, xs, rfl, hT, hx⟩ := hd_inv dp
    refine ⟨_, rfl, a, _, _, _, rfl, rfl, hT, atI_nat (j := 0) rfl, ?_⟩
    cases ho : h.kd.ownAt with
    | some i =>
      have mem := own_mem _ _ ho
      obtain ⟨w1, n1, ru⟩ := S.own.there _ _ mem
      refine ⟨_, _, rfl, rfl, n1, _, rfl, cT (k := (some w1).isSome) rfl ?_⟩
      have dd0 := DpAll.cons (K := K) (H := H) (.str h.word) hx
      have lx := DpAll.length dd0
      have lo := own_put ho us ds
      have l9 : (V.str h.word :: xs).length ≤ 10 := by
        rw [lx]
        have := rest_fit fit
        rw [List.length_cons]
        omega
      refine ⟨_, rfl, _, rfl, a, _, _, _, rfl, rfl, hT, atI_nat (j := 0) rfl, _, _, _, rfl, rfl, S.own.dct mem, _, rfl, a, i, u, _, rfl, hT, by rw [lx]; exact lo.2, by omega, fun H2 r s2 hr2 => ?_⟩
      have dd := DpAll.put i (DpAll.same s2 dd0) (Dp.same s2 du)
      rw [lo.1] at dd
      exact q H2 _ s2 (.tup hr2 dd)
    | none =>
      have mem := own_mis _ ho
      refine ⟨_, _, rfl, rfl, S.ownM _ mem, _, rfl, cF (k := (none : Option Value).isSome) rfl ?_⟩
      refine ⟨_, rfl, q H _ (.refl H) ?_⟩
      rw [own_none ho]
      exact dp
theorem sc_with_args : FnScope ["formula", "variables"] ["formula", "variables"] (defScope (top 40)) := ⟨rfl, rfl, rfl, by decide +kernel, rfl, by decide +kernel, by decide +kernel⟩
theorem has_with_args (D : Def K mg "with_arguments" ["formula", "variables"] (top 40)) (S : Shp K w mg) (C1 : Has P w K mg base 1 "_with_item" ["formula", "at", "item"] (spWithItem K)) : Has P w K mg base 2 "with_arguments" ["formula", "variables"] (spWithArgs K) := D.has fun f fd F => by
  obtain ⟨f1, fd1, G_with_item, g_with_item, k_with_item, b_with_item⟩ := C1
  have c_ARGUMENTS_AT := S.args.g
  obtain ⟨es0, n, D_ARGUMENTS_AT⟩ := S.args.d
  refine F.ok sc_with_args (fun vs H Q E h => ?_) (fun cdv A outer s H vs Q E hr h => ?_)
  · obtain ⟨v, u, h, ds, us, rfl, _⟩ := h; rfl
  · obtain ⟨v, u, h, ds, us, rfl, dp, du, lu, fit, ld, q⟩ := h
    have R_with_item : Room 1 _ := hr
    refine ⟨_, PSs.nox (pss_cons (ps_if (pt_cmpR op_in_seq (pe_ix ix_tup (pv 0) pe_int (fun _ _ => rfl)) (pe_tup (pa_cons pe_str (pa_cons pe_str pa_nil))) (by rfl)) (pss_one (ps_ret (pe_op op_catA (pe_tup (pa_cons (pe_ix ix_tup (pv 0) pe_int (fun _ _ => rfl)) pa_nil)) (pv 1)))) pss_nil) (pss_cons (ps_if (pt_cmpR (op_in_kd D_ARGUMENTS_AT) (pe_ix ix_tup (pv 0) pe_int (fun _ _ => rfl)) (pe_glob (v := .ref (He.ga K "ARGUMENTS_AT")) (by rfl) c_ARGUMENTS_AT rfl) (by rfl)) (pss_one (ps_ret (pe_call G_with_item R_with_item (by rfl) g_with_item k_with_item b_with_item .nil pass0 (pa_cons (pv 0) (pa_cons (pe_ix ix_kdict (pe_glob (v := .ref (He.ga K "ARGUMENTS_AT")) (by rfl) c_ARGUMENTS_AT rfl) (pe_ix ix_tup (pv 0) pe_int (fun _ _ => rfl)) (fun _ _ => rfl)) (pa_cons (pv 1) pa_nil)))))) pss_nil) (pss_one (ps_ret (pv 0))))), ?_⟩
    obtain ⟨a, xs, rfl, hT, hx⟩ := hd_inv dp
    refine ⟨_, rfl, a, _, _, _, rfl, rfl, hT, atI_nat (j := 0) rfl, (by show 2 ≤ sizeLine; decide), fun p np => ⟨p, _, rfl, .inr (SqT.of upd_same), rfl, rfl, _, rfl, ?_⟩⟩
    have sp : Same H (upd H p (.tup [.str "eq", .str "less"])) := same_upd np
    have hT1 := Same.sqt sp hT
    have hx1 := DpAll.same sp hx
    have du1 := Dp.same sp du
    clear hT hx du
    revert sp hT1 hx1 du1
    generalize upd H p (.tup [.str "eq", .str "less"]) = H1
    intro sp hT1 hx1 du1
    by_cases j : inV (.str h.word) [.str "eq", .str "less"] = true
    · refine cT j ?_
      obtain ⟨t, rfl, ht⟩ := tS_inv du1
      refine ⟨_, rfl, a, _, _, _, rfl, rfl, hT1, atI_nat (j := 0) rfl, (by show 1 ≤ sizeLine; decide), fun p2 np2 => ⟨_, rfl, ?_⟩⟩
      have s2 := same_upd (o := .tup [V.str h.word]) np2
      refine catA (SqT.of upd_same) (Same.sqt s2 ht) (by rw [List.length_map, lu]; show 1 + _ ≤ 1000; obtain ⟨x, y, e | e⟩ := isE h j <;> (rw [e]; show 1 + 2 ≤ 1000; decide)) fun H3 r s3 h3 => q H3 _ ((sp.trans s2).trans s3) ?_
      obtain ⟨x, y, e | e⟩ := isE h j
      · subst e
        obtain ⟨b, c, rfl⟩ := two_of lu
        exact .tup h3 (.cons (.str _) (.cons (.str _) (.cons (.str _) .nil)))
      · subst e
        obtain ⟨b, c, rfl⟩ := two_of lu
        exact .tup h3 (.cons (.str _) (.cons (.str _) (.cons (.str _) .nil)))
    · have j' : inV (.str h.word) [.str "eq", .str "less"] = false := by simpa using j
      refine cF j' ?_
      have nE := isE' h j'
      refine ⟨_, rfl, a, _, _, _, rfl, rfl, hT1, atI_nat (j := 0) rfl, ?_⟩
      cases ho : h.kd.argsAt with
      | some i =>
        have mem := args_mem _ _ ho
        obtain ⟨w1, n1, ru⟩ := S.args.there _ _ mem
        refine ⟨_, _, rfl, rfl, n1, _, rfl, cT (k := (some w1).isSome) rfl ?_⟩
        have dd0 := DpAll.cons (K := K) (H := H1) (.str h.word) hx1
        have lx := DpAll.length dd0
        have lo := args_put ho us fit
        have l9 := rest_fit fit
        refine ⟨_, rfl, _, rfl, a, _, _, _, rfl, rfl, hT1, atI_nat (j := 0) rfl, _, _, _, rfl, rfl, S.args.dct mem, _, rfl, a, i, u, _, rfl, hT1, by rw [lx]; exact lo.2, by rw [lx, List.length_cons]; omega, fun H2 r s2 hr2 => ?_⟩
        have dd := DpAll.put i (DpAll.same s2 dd0) (Dp.same s2 du1)
        rw [lo.1] at dd
        exact q H2 _ (sp.trans s2) (.tup hr2 dd)
      | none =>
        have mem := args_mis _ ho
        refine ⟨_, _, rfl, rfl, S.argsM _ mem, _, rfl, cF (k := (none : Option Value).isSome) rfl ?_⟩
        refine ⟨_, rfl, q H1 _ sp ?_⟩
        rw [args_none ho nE]
        exact .tup hT1 (.cons (.str _) hx1)
end
/-! ### renamed -/
theorem flat_take {α : Type} : ∀ (l : List (List α)) (i : Nat) (x : List α), l[i]? = some x → (l.take i).flatten.length + x.length ≤ l.flatten.length
  | [], i, x, h => by simp at h
  | a :: l, 0, x, h => by
    have e : a = x := Option.some.inj h
    rw [List.take_zero, e, List.flatten_cons, List.length_append]
    simp
  | a :: l, i + 1, x, h => by
    have := flat_take l i x h
    rw [List.take_succ_cons, List.flatten_cons, List.flatten_cons, List.length_append, List.length_append]
    omega
theorem flat_len {ps qs : List Fm} (l : qs.length = ps.length) (h : ∀ (i : Nat) (a b : Fm), ps[i]? = some a → qs[i]? = some b → b.allB.length = a.allB.length) : (qs.map Fm.allB).flatten.length = (ps.map Fm.allB).flatten.length := by
  have e : qs.map (fun q => q.allB.length) = ps.map (fun q => q.allB.length) := map_two (F := fun q : Fm => q.allB.length) l h
  rw [List.length_flatten, List.length_flatten, List.map_map, List.map_map]
  exact congrArg List.sum e
theorem Sm.lenB {c : Str → Str} {f g : Fm} (s : Sm c f g) : g.allB.length = f.allB.length := by
  induction s with
  | mk r fr l p ih =>
    rw [Fm.allB_mk, Fm.allB_mk, List.length_append, List.length_append, re_own r, r.lu, flat_len l ih]
/-- what is given out, one after another -/
structure Gvs (S : Src) (us : List Str) (S' : Src) : Prop where
  nm : Names us
  nd : us.Nodup
  new : ∀ u, u ∈ us → ¬ S.Tk u
  tk : ∀ z, S'.Tk z ↔ S.Tk z ∨ z ∈ us
  kn : S'.known = S.known
  bd : ∀ t, S.Bd t → t + us.length < 20000 → S'.Bd (t + us.length)
theorem Gvs.nil (S : Src) : Gvs S [] S := ⟨(fun v hv => nomatch hv), List.nodup_nil, (fun u hu => nomatch hu), (fun z => by simp), rfl, fun t b _ => b⟩
theorem Gv.one {S S' : Src} {u : Str} (g : Gv S u S') : Gvs S [u] S' :=
  ⟨fun v hv => by rw [List.mem_singleton.mp hv]; exact g.nm, by simp, fun v hv => by rw [List.mem_singleton.mp hv]; exact g.new, fun z => by rw [g.tk, List.mem_singleton], g.kn, fun t b h => g.bd t b (by have : t + 1 < 20000 := h; omega)⟩
theorem Gvs.app {S S1 S2 : Src} {us ws : List Str} (a : Gvs S us S1) (b : Gvs S1 ws S2) : Gvs S (us ++ ws) S2 := by
  refine ⟨fun v hv => ?_, ?_, fun u hu => ?_, fun z => ?_, b.kn.trans a.kn, fun t c h => ?_⟩
  · rcases List.mem_append.mp hv with h | h
    · exact a.nm v h
    · exact b.nm v h
  · refine List.nodup_append.mpr ⟨a.nd, b.nd, fun x hx y hy e => ?_⟩
    exact b.new y hy ((a.tk y).mpr (.inr (e ▸ hx)))
  · rcases List.mem_append.mp hu with h | h
    · exact a.new u h
    · exact fun t => b.new u h ((a.tk u).mpr (.inl t))
  · rw [b.tk, a.tk, List.mem_append]
    constructor
    · rintro ((h | h) | h)
      · exact .inl h
      · exact .inr (.inl h)
      · exact .inr (.inr h)
    · rintro (h | h | h)
      · exact .inl (.inl h)
      · exact .inl (.inr h)
      · exact .inr h
  · rw [List.length_append] at h ⊢
    have := b.bd (t + us.length) (a.bd t c (by omega)) (by omega)
    rw [Nat.add_assoc] at this
    exact this
/-- the dict at e says c -/
def Cg (H : Hp) (e : Addr) (c : Str → Str) (m : Nat) : Prop := ∃ kvs : List (Key × V), H e = some (.dK kvs) ∧ kvs.length ≤ m ∧ ∀ x, (valV kvs (Sum.inr x)).getD (.str x) = .str (c x)
theorem Cg.ks {H H' : Hp} {e s du dx : Addr} {C : Addr} {fs : List (Str × V)} {c : Str → Str} {m : Nat} (g : Cg H e c m) (k : Ks s du H H') (hs : H s = some (.ins C dx fs)) (n : e ≠ du) : Cg H' e c m := by
  obtain ⟨kvs, h, r⟩ := g
  exact ⟨kvs, k _ _ h (fun z => by rw [z, hs] at h; cases h) n, r⟩
theorem putK_len {kvs : List (Key × V)} {k : Key} {v : V} : (putK kvs k v).length ≤ kvs.length + 1 := by
  unfold putK
  split
  · rw [List.length_map]; omega
  · rw [List.length_append]; exact Nat.le_refl _
def spRen (K : PySem.W.Frag) (n : Nat) : Sp := fun vs H Q _ => ∃ (v : V) (e s du dk : Addr) (f : Fm) (c : Str → Str) (S : Src) (t m : Nat), vs = [v, .ref e, .ref s] ∧ Dp K H v f.data ∧ f.Ok ∧ f.dep ≤ n ∧ SrR K H s du dk S ∧ S.Bd t ∧ t + f.allB.length < 20000 ∧ (∀ x, x ∈ S.used → x ∈ S.known) ∧
  (∀ x, x ∈ f.allB → x ∈ S.known ∧ Nm x) ∧ Cg H e c m ∧ m + 10 * f.dep ≤ 1000 ∧ e ≠ du ∧ (∀ x, x ∈ f.frees → Nm (c x) ∧ S.Tk (c x)) ∧
  ∀ (H' : Hp) (r : V) (g : Fm) (S' : Src), SrR K H' s du dk S' → Ks s du H H' → Dp K H' r g.data → Sm c f g → Gvs S g.allB S' → (∀ x, x ∈ S'.used → x ∈ S'.known) → Q r H'
section
variable {P : Program} {w : World} {K : PySem.W.Frag} {mg : Str → Option Value} {base : Heap}
theorem sc_renamed : FnScope ["formula", "changes", "source", "passed", "bound", "within", "old", "new", "parts", "variable", "part"] ["formula", "changes", "source"] (defScope (top 56)) := ⟨rfl, rfl, rfl, by decide +kernel, rfl, by decide +kernel, by decide +kernel⟩
theorem has_renamed (D : Def K mg "renamed" ["formula", "changes", "source"] (top 56)) (T : Txt mg) (ND : NdC K) (C1 : Has P w K mg base 1 "inner" ["formula"] (spInner K)) (C2 : Has P w K mg base 1 "own" ["formula"] (spOwn K)) (C3 : Has P w K mg base 1 "arguments" ["formula"] (spArgs K))
    (C4 : Has P w K mg base 2 "with_inner" ["formula", "changed"] (spWithInner K)) (C5 : Has P w K mg base 2 "with_own" ["formula", "variables"] (spWithOwn K)) (C6 : Has P w K mg base 2 "with_arguments" ["formula", "variables"] (spWithArgs K)) (C7 : HasM P w K mg base 2 "Names" "instead_of" ["self", "name"] (spInstead K)) :
    ∀ n : Nat, Has P w K mg base (3 + n) "renamed" ["formula", "changes", "source"] (spRen K n) := by
  obtain ⟨f1, fd1, G_inner, g_inner, k_inner, b_inner⟩ := C1
  obtain ⟨f2, fd2, G_own, g_own, k_own, b_own⟩ := C2
  obtain ⟨f3, fd3, G_arguments, g_arguments, k_arguments, b_arguments⟩ := C3
  obtain ⟨f4, fd4, G_with_inner, g_with_inner, k_with_inner, b_with_inner⟩ := C4
  obtain ⟨f5, fd5, G_with_own, g_with_own, k_with_own, b_with_own⟩ := C5
  obtain ⟨f6, fd6, G_with_arguments, g_with_arguments, k_with_arguments, b_with_arguments⟩ := C6
  obtain ⟨f7, fd7, M_instead_of, hm_instead_of, bm_instead_of⟩ := C7
  intro n
  induction n with
  | zero =>
    refine D.has fun f fd F => F.ok sc_renamed (fun vs H Q E h => ?_) (fun cdv A outer s H vs Q E hr h => ?_)
    · obtain ⟨v, e, s, du, dk, f, c, S, t, m, rfl, _⟩ := h; rfl
    · obtain ⟨v, e, s, du, dk, f, c, S, t, m, rfl, _, _, h0, _⟩ := h
      have := dep_pos f
      omega
  | succ n ih =>
    obtain ⟨f8, fd8, G_renamed, g_renamed, k_renamed, b_renamed⟩ := ih
    refine D.has fun f fd F => F.ok sc_renamed (fun vs H Q E h => ?_) (fun cdv A outer s H vs Q E hr h => ?_)
    · obtain ⟨v, e, s, du, dk, f, c, S, t, m, rfl, _⟩ := h; rfl
    · obtain ⟨v, e, s, du, dk, f, c, S, t, m, rfl, dp, ok, hn, r, bd, bt, sub, kn, cg, md, neu, fr, q⟩ := h
      have R_inner : Room 1 _ := hr.mono (Nat.le_trans (by decide) (Nat.le_add_right 3 n))
      have R_own : Room 1 _ := hr.mono (Nat.le_trans (by decide) (Nat.le_add_right 3 n))
      have R_arguments : Room 1 _ := hr.mono (Nat.le_trans (by decide) (Nat.le_add_right 3 n))
      have R_with_inner : Room 2 _ := hr.mono (Nat.le_trans (by decide) (Nat.le_add_right 3 n))
      have R_with_own : Room 2 _ := hr.mono (Nat.le_trans (by decide) (Nat.le_add_right 3 n))
      have R_with_arguments : Room 2 _ := hr.mono (Nat.le_trans (by decide) (Nat.le_add_right 3 n))
      have RM_instead_of : Room 2 _ := hr.mono (Nat.le_trans (by decide) (Nat.le_add_right 3 n))
      have R_renamed : Room (3 + n) _ := hr
      refine ⟨_, PSs.nox (pss_cons (ps_set (i := 3) sc_renamed.nd rfl (Or.inl rfl) (pe_callTy call_tuple_of (by rfl) T.n_tuple (by decide +kernel) (pa_cons (pe_lc (own := [("variable", 9)]) rfl sc_renamed.nd (pi_tup (pe_call G_arguments R_arguments (by rfl) g_arguments k_arguments b_arguments .nil pass0 (pa_cons (pv 0) pa_nil))) (blkOk_by (N := ["formula", "changes", "source", "passed", "bound", "within", "old", "new", "parts", "variable", "part"]) (sc := defScope (top 56)) (by decide +kernel)) (fun _ _ _ _ _ => (pg_name (i := 9) sc_renamed.nd rfl (Or.inl rfl))) (fun _ _ _ _ _ => pts_nil) (fun _ _ _ _ _ => (pe_dget2 (hu_of hr) (pv 1) (pv 9) (pv 9) ⟨rfl, rfl, rfl, rfl⟩))) pa_nil))) (pss_cons (ps_set (i := 4) sc_renamed.nd rfl (Or.inl rfl) (pe_callTy call_tuple_of (by rfl) T.n_tuple (by decide +kernel) (pa_cons (pe_lc (own := [("variable", 9)]) rfl sc_renamed.nd (pi_tup (pe_call G_own R_own (by rfl) g_own k_own b_own .nil pass0 (pa_cons (pv 0) pa_nil))) (blkOk_by (N := ["formula", "changes", "source", "passed", "bound", "within", "old", "new", "parts", "variable", "part"]) (sc := defScope (top 56)) (by decide +kernel)) (fun _ _ _ _ _ => (pg_name (i := 9) sc_renamed.nd rfl (Or.inl rfl))) (fun _ _ _ _ _ => pts_nil) (fun _ _ _ _ _ => (pe_meth (pv 2) ND.cls hm_instead_of M_instead_of RM_instead_of bm_instead_of .nil pass0 (pa_cons (pv 9) pa_nil)))) pa_nil))) (pss_cons (ps_set (i := 5) sc_renamed.nd rfl (Or.inr rfl) (pe_callTy call_dictD (by rfl) T.n_dict (by decide +kernel) (pa_cons (pv 1) pa_nil))) (pss_cons (ps_for PassesOwn.never rfl (RZ.pi_zipA (by rfl) T.n_zip (pa_cons (pe_call G_own R_own (by rfl) g_own k_own b_own .nil pass0 (pa_cons (pv 0) pa_nil)) (pa_cons (pv 4) pa_nil))) (pg_tup rfl (pgs_cons (pg_name (i := 6) sc_renamed.nd rfl (Or.inl rfl)) (pgs_cons (pg_name (i := 7) sc_renamed.nd rfl (Or.inl rfl)) pgs_nil))) (pss_one (ps_dput (hu_of hr) (pv 5) (pv 6) (pv 7) rfl))) (pss_cons (ps_setLc (i := 8) (own := [("part", 10)]) rfl sc_renamed.nd rfl rfl (sw_true rfl rfl rfl (by decide +kernel)) (pi_tup (pe_call G_inner R_inner (by rfl) g_inner k_inner b_inner .nil pass0 (pa_cons (pv 0) pa_nil))) (blkOk_by (N := ["formula", "changes", "source", "passed", "bound", "within", "old", "new", "parts", "variable", "part"]) (sc := defScope (top 56)) (by decide +kernel)) (fun _ _ _ _ _ => (pg_name (i := 10) sc_renamed.nd rfl (Or.inl rfl))) (fun _ _ _ _ _ => pts_nil) (fun _ _ _ _ _ => (pe_call G_renamed R_renamed (by rfl) g_renamed k_renamed b_renamed .nil pass0 (pa_cons (pv 10) (pa_cons (pv 5) (pa_cons (pv 2) pa_nil)))))) (pss_one (ps_ret (pe_call G_with_inner R_with_inner (by rfl) g_with_inner k_with_inner b_with_inner .nil pass0 (pa_cons (pe_call G_with_own R_with_own (by rfl) g_with_own k_with_own b_with_own .nil pass0 (pa_cons (pe_call G_with_arguments R_with_arguments (by rfl) g_with_arguments k_with_arguments b_with_arguments .nil pass0 (pa_cons (pv 0) (pa_cons (pv 3) pa_nil))) (pa_cons (pv 4) pa_nil))) (pa_cons (pv 8) pa_nil)))))))))), ?_⟩
      obtain ⟨h, ps⟩ := f
      have fit : h.Ok (ps.map Fm.data).length := by rw [List.length_map]; exact ok.hd_
      have p40 : ps.length ≤ 40 := parts_len ok.hd_
      have al : h.args.length ≤ 8 := args_len ok.hd_
      have ol : h.own.length ≤ 8 := own_le ok.hd_
      rw [Fm.data_mk] at dp
      -- passed
      refine ⟨_, rfl, v, h, _, rfl, dp, fit.fits, fun H1 x1 s1 d1 => ?_⟩
      obtain ⟨t1, rfl, ht1⟩ := tS_inv d1
      refine ⟨t1, rfl, ⟨_, ht1⟩, fun L nL => ?_⟩
      refine lc_it (walk_tup (K := K) (a := t1) (xs := h.args.map V.str)) (fun i H2 => Same H1 H2 ∧ H2 L = some (.lst (((h.args.take i).map c).map V.str))) ⟨same_upd nL, upd_same⟩ (fun i H2 _ ⟨s2, _⟩ => Same.sqt s2 ht1) ?_ ?_
      · rintro i y H2 H3 hi ⟨s2, hL⟩ ⟨rfl, hy⟩
        obtain ⟨x, hx, rfl⟩ := get_map hy
        obtain ⟨kvs, hk, kl, kc⟩ := cg
        have hk2 := s2 _ _ (s1 _ _ hk)
        refine ⟨rfl, _, rfl, e, rfl, .inl ⟨_, .inl hk2⟩, _, rfl, _, rfl, _, DGet.k (k := Sum.inr x) hk2, ?_⟩
        rw [kc x]
        refine ⟨_, hL, ?_, fun b o eb => ?_, ?_⟩
        · rw [List.length_map, List.length_map]
          have := List.length_take_le' i h.args
          exact small1000 (by omega)
        · rw [upd_ne (ne_of_none eb nL)]
          exact s2 _ _ eb
        · rw [upd_same, List.take_add_one, hx, List.map_append, List.map_append]
          rfl
      · rintro H2 ⟨s2, hL⟩
        rw [List.length_map, List.take_length] at hL
        refine ⟨L, _, rfl, .inl ⟨SqL.of hL, fun t2 nt2 => ?_⟩⟩
        have s02 : Same H _ := (s1.trans s2).trans (same_upd (o := .tup ((h.args.map c).map V.str)) nt2)
        have ht2 : SqT K (upd H2 t2 (.tup ((h.args.map c).map V.str))) t2 ((h.args.map c).map V.str) := SqT.of upd_same
        clear hL s2 nL ht1 s1
        revert s02 ht2
        generalize upd H2 t2 (.tup ((h.args.map c).map V.str)) = H2
        intro s02 ht2
        -- bound
        refine ⟨_, rfl, v, h, _, rfl, Dp.same s02 dp, fit.fits, fun H3 x3 s3 d3 => ?_⟩
        obtain ⟨t3, rfl, ht3⟩ := tS_inv d3
        refine ⟨t3, rfl, ⟨_, ht3⟩, fun M nM => ?_⟩
        have r3 : SrR K H3 s du dk S := (r.same s02).same s3
        have ms : M ≠ s := fun z => by obtain ⟨dx, e1⟩ := r3.obj; rw [z, e1] at nM; cases nM
        have mu : M ≠ du := fun z => by rw [z, r3.used] at nM; cases nM
        have ownB : ∀ x, x ∈ h.own → x ∈ S.known ∧ Nm x := fun x hx => kn x (by rw [Fm.allB_mk]; exact List.mem_append_left _ hx)
        have lB : (Fm.mk h ps).allB.length = h.own.length + ((ps.map Fm.allB).flatten).length := by rw [Fm.allB_mk, List.length_append]
        refine lc_it (walk_tup (K := K) (a := t3) (xs := h.own.map V.str)) (fun i H4 => ∃ (us : List Str) (S' : Src), H4 M = some (.lst (us.map V.str)) ∧ us.length = i ∧ SrR K H4 s du dk S' ∧ Ks s du H3 H4 ∧ Gvs S us S' ∧ ∀ x, x ∈ S'.used → x ∈ S'.known)
          ⟨[], S, upd_same, rfl, r3.same (same_upd nM), .of (same_upd nM), .nil S, sub⟩ (fun i H4 _ ⟨_, _, _, _, _, k4, _⟩ => SqT.kj (r3.kj k4) ht3) ?_ ?_
        · rintro i y H4 H5 hi ⟨us, S', hM, lu, r4, k4, gv, sub'⟩ ⟨rfl, hy⟩
          obtain ⟨x, hx, rfl⟩ := get_map hy
          have xo := List.mem_of_getElem? hx
          have io : i < h.own.length := (List.getElem?_eq_some_iff.mp hx).1
          obtain ⟨dx, e4⟩ := r4.obj
          refine ⟨rfl, _, rfl, s, dx, _, rfl, e4, rfl, _, rfl, s, du, dk, S', x, t + us.length, rfl, r4, gv.bd t bd (by omega), by omega, (ownB x xo).2, by rw [gv.kn]; exact (ownB x xo).1, sub', fun H6 S2 z r6 k6 g6 sub2 => ?_⟩
          have hM6 := k6 _ _ hM ms mu
          refine ⟨_, hM6, by rw [List.length_map]; exact small1000 (by omega), us ++ [z], S2, by rw [upd_same, List.map_append]; rfl, by rw [List.length_append, lu]; rfl, ?_, fun b o eb n1 n2 => ?_, gv.app g6.one, sub2⟩
          · obtain ⟨dx6, e6⟩ := r6.obj
            exact ⟨⟨dx6, by rw [upd_ne ms.symm]; exact e6⟩, by rw [upd_ne mu.symm]; exact r6.used, by rw [upd_ne (fun z => by have e7 := r3.known; rw [z, nM] at e7; cases e7)]; exact r6.known, r6.ne⟩
          · rw [upd_ne (ne_of_none eb nM)]
            exact k6 _ _ (k4 _ _ eb n1 n2) n1 n2
        · rintro H4 ⟨us, S1, hM, lu, r4, k4, gv, sub1⟩
          rw [List.length_map] at lu
          refine ⟨M, _, rfl, .inl ⟨SqL.of hM, fun t4 nt4 => ?_⟩⟩
          have gk : Ks s du H H4 := ((Ks.of s02).trans (.of s3)).trans k4
          have us8 : us.length ≤ 8 := by omega
          have st4 := same_upd (o := .tup (us.map V.str)) nt4
          have ht4 : SqT K (upd H4 t4 (.tup (us.map V.str))) t4 (us.map V.str) := SqT.of upd_same
          have r5 := r4.same st4
          have k5 : Ks s du H _ := gk.trans (.of st4)
          have ht2' : SqT K _ t2 ((h.args.map c).map V.str) := Same.sqt st4 (SqT.kj (r3.kj k4) (Same.sqt s3 ht2))
          clear hM st4 ht3 k4 r4 nM r3 s3 ht2 s02 gk
          revert ht4 r5 k5 ht2'
          generalize upd H4 t4 (.tup (us.map V.str)) = H5
          intro ht4 r5 k5 ht2'
          -- within
          have kj5 : Kj H H5 := r.kj k5
          obtain ⟨dx, e0⟩ := id r.obj
          obtain ⟨kvs, hk5, kl, kc⟩ := cg.ks k5 e0 neu
          refine ⟨_, rfl, e, kvs, rfl, .inl hk5, fun p np => ?_⟩
          have sp := same_upd (o := .dK kvs) np
          have hp : (upd H5 p (.dK kvs)) p = some (.dK kvs) := upd_same
          have pns : p ≠ s := fun z => by obtain ⟨dx, e1⟩ := r5.obj; rw [z, e1] at np; cases np
          have pnu : p ≠ du := fun z => by rw [z, r5.used] at np; cases np
          have pnk : p ≠ dk := fun z => by rw [z, r5.known] at np; cases np
          refine ⟨_, rfl, v, h, _, rfl, Dp.same sp (Dp.kj kj5 dp), fit.fits, fun H7 x7 s7 d7 => ?_⟩
          obtain ⟨t7, rfl, ht7⟩ := tS_inv d7
          have sp7 := sp.trans s7
          have hp7 := s7 _ _ hp
          have nH : H p = none := by
            cases z : H p with
            | none => rfl
            | some o =>
              exfalso
              have := k5 p o z (fun w => pns w) (fun w => pnu w)
              rw [this] at np
              cases np
          refine ⟨_, rfl, t7, t4, _, _, rfl, .inr ⟨ht7, Same.sqt sp7 ht4, RZ.for_zipT (K := K) (a := t7) (b := t4) (xs := h.own.map V.str) (ys := us.map V.str) (by rw [List.length_map, List.length_map, lu]) (fun i σ H8 => ∃ (y6 y7 : Option V) (kvs' : List (Key × V)), σ = [some v, some (.ref e), some (.ref s), some (.ref t2), some (.ref t4), some (.ref p), y6, y7, none, none, none] ∧ H8 p = some (.dK kvs') ∧ kvs'.length ≤ m + i ∧ (∀ x, (valV kvs' (Sum.inr x)).getD (.str x) = .str (updC c (h.own.take i) (us.take i) x)) ∧ ∀ b o, H7 b = some o → b ≠ p → H8 b = some o)
            ⟨none, none, kvs, rfl, hp7, kl, fun x => by rw [kc]; rfl, fun b o eb _ => eb⟩ (fun i σ H8 ⟨_, _, _, _, _, _, _, k8⟩ => ?_) ?_ ?_⟩⟩
          · have kp7 : Kj H7 H8 := fun b o eb n1 n2 => k8 b o eb fun z => by rw [z, hp7] at eb; cases eb; exact n2 _ rfl
            exact ⟨SqT.kj kp7 ht7, SqT.kj kp7 (Same.sqt sp7 ht4)⟩
          · rintro i x y T σ H8 hx hy ⟨y6, y7, kvs', rfl, h8, l8, c8, k8⟩ nT
            obtain ⟨o, ho, rfl⟩ := get_map hx
            obtain ⟨u, hu, rfl⟩ := get_map hy
            have io : i < h.own.length := (List.getElem?_eq_some_iff.mp ho).1
            have sT := same_upd (o := .tup [.str o, .str u]) nT
            have pT : p ≠ T := fun z => by rw [z, nT] at h8; cases h8
            have mdp := dep_pos (Fm.mk h ps)
            refine ⟨T, _, rfl, SqT.of upd_same, rfl, _, _, rfl, _, _, rfl, rfl, ?_⟩
            refine ⟨_, rfl, _, rfl, _, rfl, p, _, rfl, DPut.k (k := Sum.inr o) (sT _ _ h8) (small20 (by omega)), ?_⟩
            refine ⟨_, _, _, rfl, upd_same, Nat.le_trans putK_len (by omega), fun x => ?_, fun b ob eb nb => ?_⟩
            · rw [valV_put, List.take_add_one, List.take_add_one, ho, hu]
              show _ = V.str (updC c (h.own.take i ++ [o]) (us.take i ++ [u]) x)
              rw [updC_snoc (by rw [List.length_take, List.length_take, lu])]
              by_cases ex : x = o
              · rw [if_pos (congrArg Sum.inr ex)]
                show V.str u = V.str (if x = o then u else _)
                rw [if_pos ex]
              · rw [if_neg fun z => ex (Sum.inr.inj z), c8]
                show _ = V.str (if x = o then u else _)
                rw [if_neg ex]
            · rw [upd_ne nb]
              exact sT _ _ (k8 b ob eb nb)
          · rintro σ H8 ⟨y6, y7, kvs', rfl, h8, l8, c8, k8⟩
            rw [List.length_map] at l8 c8
            rw [List.take_length, ← lu, List.take_length] at c8
            have kp8 : Kj H H8 := fun b o eb n1 n2 => k8 b o (sp7 _ _ (kj5 b o eb n1 n2)) fun z => by rw [z, nH] at eb; cases eb
            have k58 : ∀ b o, H5 b = some o → b ≠ p → H8 b = some o := fun b o eb nb => k8 b o (sp7 _ _ eb) nb
            have r8 : SrR K H8 s du dk S1 := by
              obtain ⟨dx5, e5⟩ := r5.obj
              exact ⟨⟨dx5, k58 _ _ e5 pns.symm⟩, k58 _ _ r5.used pnu.symm, k58 _ _ r5.known pnk.symm, r5.ne⟩
            have k08 : Ks s du H H8 := fun b o eb n1 n2 => k58 b o (k5 b o eb n1 n2) fun z => by rw [z, nH] at eb; cases eb
            have j58 : Kj H5 H8 := fun b o eb n1 n2 => k58 b o eb fun z => by rw [z, np] at eb; cases eb
            have ht4 := SqT.kj j58 ht4
            have ht2 := SqT.kj j58 ht2'
            have dp8 := Dp.kj kp8 dp
            have mdp := dep_pos (Fm.mk h ps)
            clear ht7 hp7 hp d7 sp7 s7 sp k8 k58 j58 hk5 kc kl r5 k5 kj5 ht2'
            -- parts
            refine ⟨_, rfl, v, h, _, rfl, dp8, fit.fits, fun H9 x9 s9 d9 => ?_⟩
            obtain ⟨b, ys, rfl, hb, hy⟩ := Dp.tup_inv d9
            have r9 := r8.same s9
            have hp9 := s9 _ _ h8
            refine ⟨b, rfl, ⟨_, hb⟩, fun N nN => ?_⟩
            have ns : N ≠ s := fun z => by obtain ⟨dx9, e1⟩ := r9.obj; rw [z, e1] at nN; cases nN
            have nu : N ≠ du := fun z => by rw [z, r9.used] at nN; cases nN
            have nk : dk ≠ N := fun z => by have e7 := r9.known; rw [z, nN] at e7; cases e7
            refine lc_it (walk_tup (K := K) (a := b) (xs := ys)) (fun i H10 => ∃ (zs : List V) (gs : List Fm) (S2 : Src), H10 N = some (.lst zs) ∧ DpAll K H10 zs (gs.map Fm.data) ∧ gs.length = i ∧ SrR K H10 s du dk S2 ∧ Ks s du H9 H10 ∧ Gvs S1 ((gs.map Fm.allB).flatten) S2 ∧ (∀ x, x ∈ S2.used → x ∈ S2.known) ∧ ∀ (j : Nat) (a b : Fm), ps[j]? = some a → gs[j]? = some b → Sm (updC c h.own us) a b)
              ⟨[], [], S1, upd_same, .nil, rfl, r9.same (same_upd nN), .of (same_upd nN), .nil S1, sub1, fun j a b _ z => by simp at z⟩ (fun i H10 _ ⟨_, _, _, _, _, _, _, k10, _⟩ => SqT.kj (r9.kj k10) hb) ?_ ?_
            · rintro i y H10 H11 hi ⟨zs, gs, S2, hN, hz, lg, r10, k10, gv2, sub2, sm2⟩ ⟨rfl, hy2⟩
              obtain ⟨dd, hd, dpy⟩ := DpAll.get' hy hy2
              obtain ⟨g, hg, rfl⟩ := get_map hd
              have mem := List.mem_of_getElem? hg
              have dl : g.dep < (Fm.mk h ps).dep := dep_part mem
              have ip := (List.getElem?_eq_some_iff.mp hg).1
              have fl : ((gs.map Fm.allB).flatten).length = ((ps.take i).map Fm.allB).flatten.length := by
                refine flat_len (by rw [List.length_take]; omega) fun j a b' ha hb' => ?_
                have jl : j < gs.length := (List.getElem?_eq_some_iff.mp hb').1
                rw [List.getElem?_take, if_pos (by omega)] at ha
                exact (sm2 j a b' ha hb').lenB
              have ft := flat_take (ps.map Fm.allB) i g.allB (by rw [List.getElem?_map, hg]; rfl)
              rw [← List.map_take] at ft
              have b1 := gv.bd t bd (by omega)
              have b2 := gv2.bd _ b1 (by omega)
              have own_tk : ∀ x, x ∈ us → S2.Tk x := fun x hx => (gv2.tk x).mpr (.inl ((gv.tk x).mpr (.inr hx)))
              refine ⟨rfl, _, rfl, _, rfl, _, rfl, y, p, s, du, dk, g, updC c h.own us, S2, _, m + 8, rfl, Dp.kj (r9.kj k10) dpy, ok.part mem, by omega, r10, b2, by omega, sub2, fun x hx => ?_, ⟨kvs', k10 _ _ hp9 pns pnu, by omega, c8⟩, by omega, pnu, fun x hx => ?_, fun H11 rf g' S3 r11 k11 dg sm gv3 sub3 => ?_⟩
              · have z := kn x (by rw [Fm.allB_mk]; exact List.mem_append_right _ (List.mem_flatten.mpr ⟨_, List.mem_map.mpr ⟨g, mem, rfl⟩, hx⟩))
                rw [gv2.kn, gv.kn]
                exact z
              · by_cases ox : x ∈ h.own
                · have z := updC_in (c := c) (us := us) lu ox
                  exact ⟨gv.nm _ z, own_tk _ z⟩
                · rw [updC_out ox]
                  have z := fr x (Fm.frees_mem.mpr (.inl ⟨g, mem, hx, ox⟩))
                  exact ⟨z.1, (gv2.tk _).mpr (.inl ((gv.tk _).mpr (.inl z.2)))⟩
              · have hN11 := k11 _ _ hN ns nu
                have lz := DpAll.length hz
                rw [List.length_map] at lz
                have kz := r10.kj k11
                refine ⟨_, hN11, small1000 (by omega), zs ++ [rf], gs ++ [g'], S3, upd_same, ?_, by rw [List.length_append, lg]; rfl, ?_, fun b' o eb n1 n2 => ?_, ?_, sub3, fun j a b' ha hb' => ?_⟩
                · rw [List.map_append]
                  exact DpAll.kl (Kl.upd hN11) (DpAll.snoc (DpAll.kj kz hz) dg) (by rw [noLs_append, fms_noL, fms_noL]; rfl)
                · obtain ⟨dx11, e11⟩ := r11.obj
                  exact ⟨⟨dx11, by rw [upd_ne ns.symm]; exact e11⟩, by rw [upd_ne nu.symm]; exact r11.used, by rw [upd_ne nk]; exact r11.known, r11.ne⟩
                · rw [upd_ne (ne_of_none eb nN)]
                  exact k11 _ _ (k10 _ _ eb n1 n2) n1 n2
                · rw [List.map_append, List.flatten_append]
                  have e1 : ([g'].map Fm.allB).flatten = g'.allB := by simp
                  rw [e1]
                  exact gv2.app gv3
                · by_cases jl : j < gs.length
                  · rw [List.getElem?_append_left jl] at hb'
                    exact sm2 j a b' ha hb'
                  · have jle := (List.getElem?_eq_some_iff.mp hb').1
                    rw [List.length_append] at jle
                    have ji : j = i := by have : j < gs.length + 1 := jle; omega
                    subst ji
                    rw [List.getElem?_append_right (by omega), lg, Nat.sub_self] at hb'
                    rw [hg] at ha
                    cases ha
                    cases hb'
                    exact sm
            · rintro H10 ⟨zs, gs, S2, hN, hz, lg, r10, k10, gv2, sub2, sm2⟩
              have lps : gs.length = ps.length := by rw [lg, DpAll.length hy, List.length_map]
              have j9 := r9.kj k10
              have la : (h.args.map c).length = h.args.length := List.length_map ..
              have ro : ReOk h (h.args.map c) us := ⟨la, lu, fun x hx => by
                obtain ⟨y, hy', rfl⟩ := List.mem_map.mp hx
                exact (fr y (Fm.frees_mem.mpr (.inr hy'))).1, gv.nm, gv.nd⟩
              have d40 : (ps.map Fm.data).length ≤ 40 := by rw [List.length_map]; exact p40
              have j8 : Kj H8 H10 := fun b' o eb n1 n2 => j9 b' o (s9 _ _ eb) n1 n2
              refine ⟨_, rfl, _, rfl, v, .ref t2, h, _, h.args.map c, rfl, Dp.kj j8 dp8, tS_of (SqT.kj j8 ht2), la, fit.fits, d40, fun H12 x12 s12 d12 => ?_⟩
              have f1 : (h.withArgs (h.args.map c)).fits (ps.map Fm.data).length := fun k e => fit.fits k (by rw [← one_withArgs la]; exact e)
              refine ⟨_, rfl, x12, .ref t4, _, _, us, rfl, d12, tS_of (Same.sqt s12 (SqT.kj j8 ht4)), by rw [own_withArgs la]; exact lu, f1, d40, fun H13 x13 s13 d13 => ?_⟩
              have f2 : ((h.withArgs (h.args.map c)).withOwn us).fits (ps.map Fm.data).length := fun k e => f1 k (by rw [← one_withOwn (us := us)]; exact e)
              have s10 := s12.trans s13
              refine ⟨_, rfl, x13, _, _, gs.map Fm.data, N, zs, rfl, d13, f2, SqL.of (s10 _ _ hN), DpAll.same s10 hz, by rw [List.length_map, List.length_map, lps], fun H14 x14 s14 d14 => ?_⟩
              have sF := s10.trans s14
              refine q H14 x14 (.mk (h.re (h.args.map c) us) gs) S2 (r10.same sF) (k08.trans ((Ks.of s9).trans (k10.trans (.of sF)))) (by rw [Fm.data_mk]; exact d14) (.mk ro (fun x hx hu => ?_) lps sm2) ?_ sub2
              · exact gv.new _ hu (fr x hx).2
              · rw [Fm.allB_mk, re_own ro]
                exact gv.app gv2
end
/-! ### variables that occur -/
theorem own_len {h : Hd} {n : Nat} (k : h.Ok n) : h.own.length ≤ 8 := by
  cases h with
  | ex us => show us.length ≤ 8; have h2 := k.1.2.1; omega
  | al us => show us.length ≤ 8; have h2 := k.1.2.1; omega
  | lfp n us as => show us.length ≤ 8; have h2 := k.2.1.2.1; omega
  | pfp n us as => show us.length ≤ 8; have h2 := k.2.1.2.1; omega
  | tc us as => show us.length ≤ 8; have h2 := k.1; omega
  | _ => exact Nat.zero_le _
theorem smallV {n : Nat} (h : n ≤ 20000) : n < sizeLine := Nat.lt_of_le_of_lt h (by show 20000 < sizeLine; decide)
theorem mem_flat_len {α : Type} : ∀ {l : List (List α)} {x : List α}, x ∈ l → x.length ≤ l.flatten.length
  | a :: l, x, h => by
    rw [List.flatten_cons, List.length_append]
    rcases List.mem_cons.mp h with rfl | h
    · omega
    · have := mem_flat_len h
      omega
theorem vars_part {h : Hd} {ps : List Fm} {p : Fm} (hp : p ∈ ps) : p.vars.length ≤ (Fm.mk h ps).vars.length := by
  rw [Fm.vars_mk, List.length_append]
  have := mem_flat_len (List.mem_map_of_mem (f := Fm.vars) hp)
  omega
theorem vars_mem {h : Hd} {ps : List Fm} {x : Str} : x ∈ (Fm.mk h ps).vars ↔ x ∈ h.own ++ h.args ∨ ∃ g, g ∈ ps ∧ x ∈ g.vars := by
  rw [Fm.vars_mk, List.mem_append, List.mem_flatten]
  constructor
  · rintro (a | ⟨l, hl, hx⟩)
    · exact .inl a
    · obtain ⟨g, hg, rfl⟩ := List.mem_map.mp hl
      exact .inr ⟨g, hg, hx⟩
  · rintro (a | ⟨g, hg, hx⟩)
    · exact .inl a
    · exact .inr ⟨_, List.mem_map.mpr ⟨g, hg, rfl⟩, hx⟩
theorem catA_tup {K : PySem.W.Frag} {H : Hp} {a b : Addr} {as bs : List Str} {Q : VK} (h1 : SqT K H a (as.map V.str)) (h2 : SqT K H b (bs.map V.str)) (len : as.length + bs.length ≤ 900)
    (q : ∀ (H' : Hp) (t : Addr), Same H H' → SqT K H' t ((as ++ bs).map V.str) → Q (.ref t) H') : rCatA K (.ref a) (.ref b) H Q := by
  refine ⟨a, b, _, _, rfl, rfl, h1, h2, ?_, fun e => ?_, fun _ e => ?_, fun _ _ p np => ?_⟩
  · rw [List.length_map, List.length_map]
    exact Nat.le_of_lt (small1000 (by omega))
  · refine q H b (.refl H) ?_
    rw [List.map_eq_nil_iff.mp e]
    exact h2
  · refine q H a (.refl H) ?_
    rw [List.map_eq_nil_iff.mp e, List.append_nil]
    exact h1
  · refine q _ p (same_upd np) ?_
    rw [List.map_append]
    exact .inl (.inl upd_same)
def spVarsD (K : PySem.W.Frag) (n : Nat) : Sp := fun vs H Q _ => ∃ (v : V) (f : Fm), vs = [v] ∧ Dp K H v f.data ∧ f.Ok ∧ f.vars.length ≤ 20000 - 1 ∧ f.dep ≤ n ∧
  ∀ (H' : Hp) (r : Addr) (l : List Str), Same H H' → H r = none → H' r = some (.dK (l.map encT)) → l.Nodup → (∀ x, x ∈ l ↔ x ∈ f.vars) → Q (.ref r) H'
section
variable {P : Program} {w : World} {K : PySem.W.Frag} {mg : Str → Option Value} {base : Heap}
theorem sc_pvars : FnScope ["formula", "found", "part", "variable"] ["formula"] (defScope (top 53)) := ⟨rfl, rfl, rfl, by decide +kernel, rfl, by decide +kernel, by decide +kernel⟩
theorem has_pvars (D : Def K mg "variables_in" ["formula"] (top 53)) (T : Txt mg) (C1 : Has P w K mg base 1 "inner" ["formula"] (spInner K)) (C2 : Has P w K mg base 1 "own" ["formula"] (spOwn K)) (C3 : Has P w K mg base 1 "arguments" ["formula"] (spArgs K)) :
    ∀ n : Nat, Has P w K mg base (2 + n) "variables_in" ["formula"] (spVarsD K n) := by
  obtain ⟨f1, fd1, G_inner, g_inner, k_inner, b_inner⟩ := C1
  obtain ⟨f2, fd2, G_own, g_own, k_own, b_own⟩ := C2
  obtain ⟨f3, fd3, G_arguments, g_arguments, k_arguments, b_arguments⟩ := C3
  intro n
  induction n with
  | zero =>
    refine D.has fun f fd F => F.ok sc_pvars (fun vs H Q E h => ?_) (fun cdv A outer s H vs Q E hr h => ?_)
    · obtain ⟨v, f, rfl, _⟩ := h; rfl
    · obtain ⟨v, f, rfl, _, _, _, h0, _⟩ := h
      have := dep_pos f
      omega
  | succ n ih =>
    obtain ⟨f4, fd4, G_variables_in, g_variables_in, k_variables_in, b_variables_in⟩ := ih
    refine D.has fun f fd F => F.ok sc_pvars (fun vs H Q E h => ?_) (fun cdv A outer s H vs Q E hr h => ?_)
    · obtain ⟨v, f, rfl, _⟩ := h; rfl
    · obtain ⟨v, f, rfl, dp, ok, hp20, hn, q⟩ := h
      have R_inner : Room 1 _ := hr.mono (Nat.le_trans (by decide) (Nat.le_add_right 2 n))
      have R_own : Room 1 _ := hr.mono (Nat.le_trans (by decide) (Nat.le_add_right 2 n))
      have R_arguments : Room 1 _ := hr.mono (Nat.le_trans (by decide) (Nat.le_add_right 2 n))
      have R_variables_in : Room (2 + n) _ := hr
      refine ⟨_, PSs.nox (pss_cons (ps_setDc (i := 1) (own := [("variable", 3)]) rfl sc_pvars.nd rfl rfl (sw_trueD rfl rfl rfl (by decide +kernel)) (pi_tup (pe_op op_catA (pe_call G_own R_own (by rfl) g_own k_own b_own .nil pass0 (pa_cons (pv 0) pa_nil)) (pe_call G_arguments R_arguments (by rfl) g_arguments k_arguments b_arguments .nil pass0 (pa_cons (pv 0) pa_nil)))) (blkOk_by (N := ["formula", "found", "part", "variable"]) (sc := defScope (top 53)) (by decide +kernel)) (fun _ _ _ _ _ => (pg_name (i := 3) sc_pvars.nd rfl (Or.inl rfl))) (fun _ _ _ _ _ => pts_nil) (fun _ _ _ _ _ => (pv 3)) (fun _ _ _ _ _ => pe_bl)) (pss_cons (ps_for PassesOwn.never rfl (pi_tup (pe_call G_inner R_inner (by rfl) g_inner k_inner b_inner .nil pass0 (pa_cons (pv 0) pa_nil))) (pg_name (i := 2) sc_pvars.nd rfl (Or.inl rfl)) (pss_one (ps_for PassesOwn.never rfl (pi_keys (pe_frz (pe_call G_variables_in R_variables_in (by rfl) g_variables_in k_variables_in b_variables_in .nil pass0 (pa_cons (pv 2) pa_nil)))) (pg_name (i := 3) sc_pvars.nd rfl (Or.inl rfl)) (pss_one (ps_dput (hu_of hr) (pv 1) (pv 3) pe_bl rfl))))) (pss_one (ps_ret (pv 1))))), ?_⟩
      obtain ⟨h, ps⟩ := f
      have fit : h.Ok (ps.map Fm.data).length := by rw [List.length_map]; exact ok.hd_
      rw [Fm.data_mk] at dp
      have al : h.args.length ≤ 8 := args_len ok.hd_
      have ol : h.own.length ≤ 8 := own_len ok.hd_
      -- found
      refine ⟨_, rfl, v, h, _, rfl, dp, fit.fits, fun H0 t0 s0 d0 => ?_⟩
      obtain ⟨t0, rfl, ht0⟩ := tS_inv d0
      refine ⟨_, rfl, v, h, _, rfl, Dp.same s0 dp, fit.fits, fun Ha ta sa da => ?_⟩
      obtain ⟨ta, rfl, hta⟩ := tS_inv da
      refine catA_tup (Same.sqt sa ht0) hta (by omega) fun H1 t s1' ht => ?_
      have s1 : Same H H1 := (s0.trans sa).trans s1'
      refine ⟨t, rfl, ⟨_, ht⟩, fun c nc => ?_⟩
      have nc0 : H c = none := Same.none s1 nc
      have bl : (h.own ++ h.args).length ≤ 16 := by rw [List.length_append]; omega
      refine dc_tup (K := K) (a := t) (xs := (h.own ++ h.args).map V.str) (fun i H2 => Same H1 H2 ∧ ∃ l : List Str, H2 c = some (.dK (l.map encT)) ∧ l.Nodup ∧ (∀ x, x ∈ l ↔ x ∈ (h.own ++ h.args).take i) ∧ l.length ≤ i) ⟨same_upd nc, [], upd_same, List.nodup_nil, fun x => by simp, Nat.le_refl _⟩ (fun i H2 _ ⟨s2, _⟩ => Same.sqt s2 ht) ?_ ?_
      · rintro i z H2 hz ⟨s2, l, hc2, nd, ml, ll⟩
        obtain ⟨x, hx, rfl⟩ := get_map hz
        have hi : i < (h.own ++ h.args).length := (List.getElem?_eq_some_iff.mp hx).1
        obtain ⟨m, em, ndm, mm, lm⟩ := put_encT (l := l) (x := x)
        refine ⟨rfl, _, rfl, _, Sum.inr x, rfl, hc2, ?_, fun b o eb => ?_, m, ?_, ndm nd, fun y => ?_, by omega⟩
        · rw [List.length_map]
          exact small1000 (by omega)
        · rw [upd_ne (ne_of_none eb nc)]
          exact s2 _ _ eb
        · rw [upd_same, em]
        · rw [mm, ml, List.take_add_one, hx, List.mem_append]
          simp
      · rintro H2 ⟨s2, l0, hc2, nd0, ml0, ll0⟩
        rw [List.length_map] at ll0 ml0
        rw [List.take_length] at ml0
        have s02 : Same H H2 := s1.trans s2
        have keepS : ∀ {H3 H4 : Hp}, Same H2 H3 → Kp c H3 H4 → Same H H4 := fun s k b o e => k b o (s b o (s02 b o e)) (ne_of_none e nc0)
        refine ⟨_, rfl, v, h, _, rfl, Dp.same s02 dp, fit.fits, fun H3 r s3 hr3 => ?_⟩
        obtain ⟨b, ys, rfl, hb, hy⟩ := Dp.tup_inv hr3
        have hc3 := s3 _ _ hc2
        have nq : NotSeq H3 c := ⟨_, hc3⟩
        refine ⟨b, rfl, ⟨_, hb⟩, for_tup (K := K) (a := b) (xs := ys) (fun i σ H4 => ∃ (y2 y3 : Option V) (l : List Str), σ = [some v, some (.ref c), y2, y3] ∧ Kp c H3 H4 ∧ H4 c = some (.dK (l.map encT)) ∧ l.Nodup ∧ ∀ x, x ∈ l ↔ x ∈ h.own ++ h.args ∨ ∃ g, g ∈ ps.take i ∧ x ∈ g.vars)
          ⟨none, none, l0, rfl, .refl _ _, hc3, nd0, fun x => by rw [ml0]; simp⟩ (fun i σ H4 _ ⟨_, _, _, _, k4, _⟩ => k4.sqt' nq hb) ?_ ?_⟩
        · rintro i y σ H4 hi ⟨y2, y3, l, rfl, k4, hc4, nd, ml⟩
          obtain ⟨dd, hd, dpy⟩ := DpAll.get' hy hi
          obtain ⟨g, hg, rfl⟩ := get_map hd
          have mem := List.mem_of_getElem? hg
          have dl : g.dep < (Fm.mk h ps).dep := dep_part mem
          have sH4 : Same H H4 := keepS s3 k4
          refine ⟨_, rfl, y, g, rfl, Dp.kpD k4 nq dpy, ok.part mem, Nat.le_trans (vars_part mem) hp20, by omega, fun H5 e l2 s5 ne he nd2 m2 => ?_⟩
          have nec : e ≠ c := fun z => by rw [z, hc4] at ne; cases ne
          refine ⟨e, .dK (l2.map encT), he, trivial, fun od => ?_⟩
          refine ⟨e, od, rfl, .inl ⟨_, upd_same, for_it walk_keys (fun j σ H6 => ∃ (y3 : Option V) (l' : List Str), σ = [some v, some (.ref c), some y, y3] ∧ H6 e = some (.frz od (.dK (l2.map encT))) ∧ (∀ b o, H4 b = some o → b ≠ c → H6 b = some o) ∧ H6 c = some (.dK (l'.map encT)) ∧ l'.Nodup ∧ ∀ x, x ∈ l' ↔ x ∈ l ∨ x ∈ l2.take j)
            ⟨y3, l, rfl, upd_same, fun b o eb nb => by rw [upd_ne (ne_of_none eb ne)]; exact s5 _ _ eb, by rw [upd_ne nec.symm]; exact s5 _ _ hc4, nd, fun x => by simp⟩ (fun j σ H6 _ ⟨_, _, _, q1, _⟩ => q1) ?_ ?_⟩⟩
          · rintro j x σ H6 H7 hj ⟨y3, l', rfl, he6, k6, hc6, nd', ml'⟩ ⟨rfl, kk, vv, hkv, rfl⟩
            obtain ⟨p, hp, ep⟩ := get_map hkv
            have ek : kk = Sum.inr p := congrArg Prod.fst ep
            subst ek
            have tk : l2.take (j + 1) = l2.take j ++ [p] := by rw [List.take_add_one, hp]; rfl
            have l'20 : l'.length ≤ 20000 - 1 := Nat.le_trans (sub_len l' (Fm.mk h ps).vars nd' fun x hx => (vars_mem.mpr (by
              rcases (ml' x).mp hx with z | z
              · rcases (ml x).mp z with a | ⟨g2, hg2, a⟩
                · exact .inl a
                · exact .inr ⟨g2, List.mem_of_mem_take hg2, a⟩
              · exact .inr ⟨g, mem, (m2 x).mp (List.mem_of_mem_take z)⟩))) hp20
            obtain ⟨m, em, ndm, mm, lm⟩ := put_encT (l := l') (x := p)
            refine ⟨_, rfl, _, rfl, c, _, rfl, DPut.k (k := Sum.inr p) hc6 (by rw [List.length_map]; exact smallV (by omega)), ?_⟩
            rw [em]
            refine ⟨_, m, rfl, by rw [upd_ne nec]; exact he6, fun b o eb nb => by rw [upd_ne nb]; exact k6 b o eb nb, upd_same, ndm nd', fun x => ?_⟩
            rw [mm, ml', tk, List.mem_append]
            simp [or_assoc]
          · rintro σ H6 ⟨y3, l', rfl, he6, k6, hc6, nd', ml'⟩
            refine ⟨_, _, l', rfl, fun b o eb nb => k6 b o (k4 b o eb nb) nb, hc6, nd', fun x => ?_⟩
            have hg : ps[i]? = some g := hg
            rw [ml', ml, List.take_of_length_le (show l2.length ≤ (l2.map encT).length by rw [List.length_map]; exact Nat.le_refl _), m2, List.take_add_one, hg]
            constructor
            · rintro ((a | ⟨g2, hg2, a⟩) | a)
              · exact .inl a
              · exact .inr ⟨g2, List.mem_append_left _ hg2, a⟩
              · exact .inr ⟨g, List.mem_append_right _ (List.mem_singleton.mpr rfl), a⟩
            · rintro (a | ⟨g2, hg2, a⟩)
              · exact .inl (.inl a)
              · rcases List.mem_append.mp hg2 with hg2 | hg2
                · exact .inl (.inr ⟨g2, hg2, a⟩)
                · rw [List.mem_singleton.mp hg2] at a
                  exact .inr a
        · rintro σ H4 ⟨y2, y3, l, rfl, k4, hc4, nd, ml⟩
          have eyl : ys.length = ps.length := by rw [DpAll.length hy, List.length_map]
          rw [List.take_of_length_le (show ps.length ≤ ys.length by omega)] at ml
          exact ⟨_, rfl, q H4 c l (keepS s3 k4) nc0 hc4 nd fun x => by rw [ml, vars_mem]⟩
end
/-! ### apart -/
theorem own_names {h : Hd} {n : Nat} (k : h.Ok n) : Names h.own := by
  cases h with
  | ex vs => exact k.1.2.2.1
  | al vs => exact k.1.2.2.1
  | lfp m vs as => exact k.2.1.2.2.1
  | pfp m vs as => exact k.2.1.2.2.1
  | tc vs as => exact k.2.1
  | _ => exact fun v hv => nomatch hv
theorem args_names {h : Hd} {n : Nat} (k : h.Ok n) : Names h.args := by
  cases h with
  | rel m as => exact k.2.2.1
  | eq x y =>
    intro v hv
    rcases List.mem_cons.mp hv with rfl | hv
    · exact k.1
    · rw [List.mem_singleton.mp hv]; exact k.2.1
  | less x y =>
    intro v hv
    rcases List.mem_cons.mp hv with rfl | hv
    · exact k.1
    · rw [List.mem_singleton.mp hv]; exact k.2.1
  | lfp m vs as => exact k.2.2.2.1
  | pfp m vs as => exact k.2.2.2.1
  | tc vs as => exact k.2.2.2.2.1
  | _ => exact fun v hv => nomatch hv
theorem mk_init {P : Program} {w : World} {K : PySem.W.Frag} {mg : Str → Option Value} {base : Heap} {g : Addr} {ps : List Str} {sp : Sp} {k : Nat} (M : Mk K (He.ga K "Names") g) (h : HasM P w K mg base k "Names" "__init__" ps sp) : ∃ f fd, Mk K (He.ga K "Names") f ∧ FnOk P w K mg base CX0 k f fd ps sp ∧ Binds K fd ps [] := by
  obtain ⟨f, fd, F, m, b⟩ := h
  have e := m.at_.symm.trans M.init
  injection e with e
  injection e with e
  injection e with e
  subst e
  exact ⟨f, fd, M, F, b⟩
theorem vars_nm : ∀ f : Fm, f.Ok → ∀ x, x ∈ f.vars → Nm x := Fm.ind fun h ps ih ok x hx => by
  rcases vars_mem.mp hx with a | ⟨g, hg, a⟩
  · rcases List.mem_append.mp a with a | a
    · exact own_names ok.hd_ x a
    · exact args_names ok.hd_ x a
  · exact ih g hg (ok.part hg) x a
theorem allB_vars : ∀ f : Fm, ∀ x, x ∈ f.allB → x ∈ f.vars := Fm.ind fun h ps ih x hx => by
  rw [Fm.allB_mk] at hx
  rcases List.mem_append.mp hx with a | a
  · exact vars_mem.mpr (.inl (List.mem_append_left _ a))
  · obtain ⟨l, hl, a⟩ := List.mem_flatten.mp a
    obtain ⟨g, hg, rfl⟩ := List.mem_map.mp hl
    exact vars_mem.mpr (.inr ⟨g, hg, ih g hg x a⟩)
def spApart (K : PySem.W.Frag) : Sp := fun vs H Q _ => ∃ (v : V) (f : Fm), vs = [v] ∧ Dp K H v f.data ∧ f.Wf ∧ Fr20 f ∧ f.vars.length ≤ 20000 - 1 ∧ f.allB.length ≤ 10000 ∧
  ∀ (H' : Hp) (r : V) (g : Fm), Same H H' → Dp K H' r g.data → Sm id f g → Names g.allB → g.allB.Nodup → (∀ u, u ∈ g.allB → u ∉ f.frees) → Q r H'
section
variable {P : Program} {w : World} {K : PySem.W.Frag} {mg : Str → Option Value} {base : Heap}
theorem sc_apart : FnScope ["formula", "source"] ["formula"] (defScope (top 58)) := ⟨rfl, rfl, rfl, by decide +kernel, rfl, by decide +kernel, by decide +kernel⟩
theorem has_apart (D : Def K mg "apart" ["formula"] (top 58)) (gC_Names : mg "Names" = some (.ref (He.ga K "Names"))) (I : ∃ f fd, Mk K (He.ga K "Names") f ∧ FnOk P w K mg base CX0 1 f fd ["self", "barred", "known"] (spSrcInit K) ∧ Binds K fd ["self", "barred", "known"] [])
    (C1 : Has P w K mg base 48 "free" ["formula"] (spFreeL K)) (C2 : ∀ n, Has P w K mg base (2 + n) "variables_in" ["formula"] (spVarsD K n)) (C3 : ∀ n, Has P w K mg base (3 + n) "renamed" ["formula", "changes", "source"] (spRen K n)) : Has P w K mg base 49 "apart" ["formula"] (spApart K) := D.has fun f fd F => by
  obtain ⟨f1, fd1, G_free, g_free, k_free, b_free⟩ := C1
  obtain ⟨f2, fd2, G_variables_in, g_variables_in, k_variables_in, b_variables_in⟩ := C2 40
  obtain ⟨f3, fd3, G_renamed, g_renamed, k_renamed, b_renamed⟩ := C3 40
  obtain ⟨f4, fd4, MK_Names, GI_Names, bI_Names⟩ := I
  refine F.ok sc_apart (fun vs H Q E h => ?_) (fun cdv A outer s H vs Q E hr h => ?_)
  · obtain ⟨v, f, rfl, _⟩ := h; rfl
  · obtain ⟨v, f, rfl, dp, wf, fr, vl, bl, q⟩ := h
    have R_free : Room 48 _ := hr
    have R_variables_in : Room (2 + 40) _ := hr.mono (by decide)
    have R_renamed : Room (3 + 40) _ := hr.mono (by decide)
    have RI_Names : Room (1 + 1) _ := hr.mono (by decide)
    refine ⟨_, PSs.nox (pss_cons (ps_set (i := 1) sc_apart.nd rfl (Or.inl rfl) (pe_make MK_Names GI_Names RI_Names (by rfl) gC_Names bI_Names .nil pass0 (pa_cons (pe_call G_free R_free (by rfl) g_free k_free b_free .nil pass0 (pa_cons (pv 0) pa_nil)) (pa_cons (pe_call G_variables_in R_variables_in (by rfl) g_variables_in k_variables_in b_variables_in .nil pass0 (pa_cons (pv 0) pa_nil)) pa_nil)))) (pss_one (ps_ret (pe_call G_renamed R_renamed (by rfl) g_renamed k_renamed b_renamed .nil pass0 (pa_cons (pv 0) (pa_cons pe_dnewK (pa_cons (pv 1) pa_nil))))))), ?_⟩
    refine ⟨_, rfl, v, f, rfl, dp, wf, fr, fun H1 r1 ss s1 hr1 so => ?_⟩
    refine ⟨_, rfl, v, f, rfl, Dp.same s1 dp, wf.ok, vl, wf.dep, fun H2 e l s2 ne he nd ml => ?_⟩
    have ne0 : H e = none := Same.none s1 ne
    obtain ⟨pool, p20, sub⟩ := fr.here
    have l1 : ss.length ≤ 20 := Nat.le_trans (sub_len ss pool so.nd fun x hx => sub x ((so.mem x).mp hx)) p20
    have l2 : l.length ≤ 20000 - 1 := Nat.le_trans (sub_len l f.vars nd fun x hx => (ml x).mp hx) vl
    intro x dx nx ndx nex
    have sd := same_upd (o := .own x) ndx
    have nx1 : (upd H2 dx (.own x)) x = none := by rw [upd_ne nex.symm]; exact nx
    have sx := same_upd (o := .ins (He.ga K "Names") dx []) nx1
    have s03 := ((s1.trans s2).trans sd).trans sx
    have s23 := sd.trans sx
    refine ⟨x, dx, r1, e, ss, l, rfl, upd_same, SqL.of (s23 _ _ (s2 _ _ hr1)), s23 _ _ he, so.nd, nd, by omega, by omega, fun H4 du dk S r4 k4 ndu nu lu mu lk mk made => ⟨rfl, ?_⟩⟩
    have nx0 : H x = none := by
      cases z : H x with
      | none => rfl
      | some o => rw [s2 _ _ (s1 _ _ z)] at nx; cases nx
    have ndu0 : H du = none := by
      cases z : H du with
      | none => rfl
      | some o => rw [s03 _ _ z] at ndu; cases ndu
    have s04 : Same H H4 := fun b o eb => k4 b o (s03 _ _ eb) (fun z => by rw [z, nx0] at eb; cases eb) (fun z => by rw [z, ne0] at eb; cases eb)
    refine ⟨_, rfl, fun p np => ?_⟩
    have sp := same_upd (o := .dK []) np
    have s05 := s04.trans sp
    refine ⟨_, rfl, v, p, x, du, dk, f, id, S, 20, 0, rfl, Dp.same s05 dp, wf.ok, wf.dep, r4.same sp, ⟨nu, by omega, by omega, by omega⟩, by omega, fun y hy => ?_, fun y hy => ⟨?_, ?_⟩, ⟨[], upd_same, Nat.le_refl _, fun _ => rfl⟩, (by have := wf.dep; omega), (fun z => by rw [z, r4.used] at np; cases np), fun y hy => ⟨?_, ?_⟩, fun H6 r g S' r6 k6 dg sm gv _ => ?_⟩
    · exact (mk y).mpr ((ml y).mpr (frees_vars _ y ((so.mem y).mp ((mu y).mp hy))))
    · exact (mk y).mpr ((ml y).mpr (allB_vars f y hy))
    · exact vars_nm f wf.ok y (allB_vars f y hy)
    · exact vars_nm f wf.ok y (frees_vars _ y hy)
    · exact .inl ((mu y).mpr ((so.mem y).mpr hy))
    · refine q H6 r g (fun b o eb => k6 b o (s05 _ _ eb) (fun z => by rw [z, nx0] at eb; cases eb) (fun z => by rw [z, ndu0] at eb; cases eb)) dg sm gv.nm gv.nd fun u hu hf => gv.new u hu (.inl ((mu u).mpr ((so.mem u).mpr hf)))
end
/-! ### the law's looks at names -/
def spLName (K : PySem.W.Frag) : Sp := fun vs H Q _ => ∃ z : Str, vs = [.str z] ∧ Nm z ∧ ∀ H' : Hp, Same H H' → Q (.bl true) H'
def spSameN (K : PySem.W.Frag) : Sp := fun vs H Q _ => ∃ (x y : V) (e : Addr) (as : List Str) (c : Str → Str) (m : Nat), vs = [x, y, .ref e] ∧ Dp K H x (tS as) ∧ Dp K H y (tS (as.map c)) ∧ as.length ≤ 100 ∧ Cg H e c m ∧ Q (.bl true) H
def spAllB (K : PySem.W.Frag) (n : Nat) : Sp := fun vs H Q _ => ∃ (v : V) (f : Fm), vs = [v] ∧ Dp K H v f.data ∧ f.Ok ∧ f.dep ≤ n ∧ f.allB.length ≤ 10000 ∧ ∀ (H' : Hp) (r : Addr), Same H H' → H r = none → H' r = some (.lst (f.allB.map V.str)) → Q (.ref r) H'
section
variable {P : Program} {w : World} {K : PySem.W.Frag} {mg : Str → Option Value} {base : Heap}
theorem sc_lname : FnScope ["word", "sign"] ["word"] (defScope (top 77)) := ⟨rfl, rfl, rfl, by decide +kernel, rfl, by decide +kernel, by decide +kernel⟩
theorem has_lname (D : Def K mg "_law_is_name" ["word"] (top 77)) (T : Txt mg) : Has P w K mg base 1 "_law_is_name" ["word"] (spLName K) := D.has fun f fd F => by
  refine F.ok sc_lname (fun vs H Q E h => ?_) (fun cdv A outer s H vs Q E hr h => ?_)
  · obtain ⟨z, rfl, _⟩ := h; rfl
  · obtain ⟨z, rfl, nm, q⟩ := h
    refine ⟨_, PSs.nox (pss_cons (ps_if (PW.pt (pw_or (pt_not (pt_val (pe_callB call_isi (by rfl) T.n_isinstance (by decide +kernel) (pa_cons (pv 0) (pa_cons (pe_bltn (v := .ty "str") (by rfl) T.n_str (by decide +kernel) rfl) pa_nil))))) (pw_or (pt_cmpR op_lt (pe_callB call_len_str (by rfl) T.n_len PySem.boot_len (pa_cons (pv 0) pa_nil)) pe_int (nomark _)) (pw_or (pt_cmpR op_gt (pe_callB call_len_str (by rfl) T.n_len PySem.boot_len (pa_cons (pv 0) pa_nil)) pe_int (nomark _)) (pw_or1 (pt_cmpR op_notIn_sign (pe_ix ix_str (pv 0) pe_int (fun _ _ => rfl)) pe_str (by rfl))))))) (pss_one (ps_ret pe_bl)) pss_nil) (pss_cons (ps_if (pt_cmpR op_in_seq (pv 0) (pe_lst (pa_cons pe_str (pa_cons pe_str (pa_cons pe_str (pa_cons pe_str (pa_cons pe_str (pa_cons pe_str (pa_cons pe_str (pa_cons pe_str (pa_cons pe_str (pa_cons pe_str (pa_cons pe_str pa_nil)))))))))))) (by rfl)) (pss_one (ps_ret pe_bl)) pss_nil) (pss_one (ps_ret (pe_cmpR op_eq (pe_callB call_len_seq (by rfl) T.n_len PySem.boot_len (pa_cons (pe_lc (own := [("sign", 1)]) rfl sc_lname.nd (pi_str (pv 0)) (blkOk_by (N := ["word", "sign"]) (sc := defScope (top 77)) (by decide +kernel)) (fun _ _ _ _ _ => (pg_name (i := 1) sc_lname.nd rfl (Or.inl rfl))) (fun _ _ _ _ _ => (pts_one (pt_cmpR op_notIn_sign (pv 1) pe_str (by rfl)))) (fun _ _ _ _ _ => (pv 1))) pa_nil)) pe_int (nomark _)))))), ?_⟩
    have lo := nm.lo
    have hi := nm.hi
    have hz : z.length ≤ sizeLine := Nat.le_trans hi (by show 12 ≤ sizeLine; decide)
    have hl1 : 0 < z.cps.toList.length := by rw [sz_len]; omega
    have e0 : z.cps.toList[0]? = some (z.cps.toList[0]) := List.getElem?_eq_getElem hl1
    refine ⟨_, rfl, _, _, _, _, _, rfl, .ty _, .base (.str z), kit_ty (b := "str") (r := true) (by decide +kernel), _, rfl, iteF ?_⟩
    refine ⟨_, rfl, z, rfl, hz, _, _, rfl, rfl, _, rfl, cF (k := decide (((z.length : Nat) : Int) < 1)) (decide_eq_false (by omega)) ?_⟩
    refine ⟨_, rfl, z, rfl, hz, _, _, rfl, rfl, _, rfl, cF (k := decide (((z.length : Nat) : Int) > 12)) (decide_eq_false (by omega)) ?_⟩
    refine ⟨_, rfl, z, _, _, rfl, rfl, hz, atI_nat (j := 0) e0, _, _, rfl, rfl, _, rfl, cF (nd_f (nm.first _ e0)) ?_⟩
    refine ⟨_, rfl, (by show 11 ≤ sizeLine; decide), fun p np => ⟨_, _, rfl, .inl (SqL.of upd_same), rfl, rfl, _, rfl, cF (k := inV (.str z) resv) nm.res ?_⟩⟩
    have sp := same_upd (o := .lst resv) np
    refine ⟨_, rfl, z, rfl, fun L nL => ?_⟩
    have sL := same_upd (o := .lst []) nL
    refine lc_it walk_str (fun i H2 => H2 = upd (upd H p (.lst resv)) L (.lst [])) rfl (fun _ _ _ _ => trivial) ?_ ?_
    · rintro i y H2 H3 hi rfl ⟨rfl, c, hc, rfl⟩
      have hm := nm.all_ c (List.mem_of_getElem? (at_sz hc))
      exact ⟨rfl, _, rfl, _, _, rfl, rfl, _, rfl, cF (nd_f hm) rfl⟩
    · rintro H2 rfl
      exact ⟨L, _, rfl, .inl (SqL.of upd_same), rfl, q _ (sp.trans sL)⟩
theorem sc_same_names : FnScope ["first", "second", "pairs", "k"] ["first", "second", "pairs"] (defScope (top 78)) := ⟨rfl, rfl, rfl, by decide +kernel, rfl, by decide +kernel, by decide +kernel⟩
theorem has_same_names (D : Def K mg "_law_same_names" ["first", "second", "pairs"] (top 78)) (T : Txt mg) : Has P w K mg base 1 "_law_same_names" ["first", "second", "pairs"] (spSameN K) := D.has fun f fd F => by
  refine F.ok sc_same_names (fun vs H Q E h => ?_) (fun cdv A outer s H vs Q E hr h => ?_)
  · obtain ⟨x, y, e, as, c, m, rfl, _⟩ := h; rfl
  · obtain ⟨x, y, e, as, c, m, rfl, dx, dy, la, ⟨kvs, hk, kl, kc⟩, q⟩ := h
    refine ⟨_, PSs.nox (pss_cons (ps_if (PW.pt (pw_or (pt_not (pt_val (pe_callB call_isi (by rfl) T.n_isinstance (by decide +kernel) (pa_cons (pv 1) (pa_cons (pe_bltn (v := .ty "tuple") (by rfl) T.n_tuple (by decide +kernel) rfl) pa_nil))))) (pw_or1 (pt_cmpR op_ne (pe_callB call_len_seq (by rfl) T.n_len PySem.boot_len (pa_cons (pv 1) pa_nil)) (pe_callB call_len_seq (by rfl) T.n_len PySem.boot_len (pa_cons (pv 0) pa_nil)) (nomark _))))) (pss_one (ps_ret pe_bl)) pss_nil) (pss_cons (ps_for PassesOwn.never rfl (pi_range1 (by rfl) T.n_range (pa_cons (pe_callB call_len_seq (by rfl) T.n_len PySem.boot_len (pa_cons (pv 0) pa_nil)) pa_nil)) (pg_name (i := 3) sc_same_names.nd rfl (Or.inl rfl)) (pss_one (ps_if (pt_cmpR op_ne (pe_ix ix_tup (pv 1) (pv 3) (fun _ _ => rfl)) (pe_dget2 (hu_of hr) (pv 2) (pe_ix ix_tup (pv 0) (pv 3) (fun _ _ => rfl)) (pe_ix ix_tup (pv 0) (pv 3) (fun _ _ => rfl)) ⟨rfl, rfl, rfl, rfl⟩) (nomark _)) (pss_one (ps_ret pe_bl)) pss_nil))) (pss_one (ps_ret pe_bl)))), ?_⟩
    obtain ⟨a, rfl, ha⟩ := tS_inv dx
    obtain ⟨b, rfl, hb⟩ := tS_inv dy
    refine ⟨_, rfl, _, _, _, _, _, rfl, .ty _, ty_tup hb, kit_ty (b := "tuple") (r := true) (by decide +kernel), _, rfl, iteF ?_⟩
    refine ⟨_, rfl, b, _, rfl, .inr hb, _, rfl, a, _, rfl, .inr ha, rfl, _, rfl, ?_⟩
    refine cF (k := !decide (V.int (((as.map c).map V.str).length : Nat) = V.int ((as.map V.str).length : Nat))) (nd_f (by rw [List.length_map, List.length_map, List.length_map])) ?_
    refine ⟨_, rfl, a, _, rfl, .inr ha, as.length, congrArg (fun n : Nat => [V.int (n : Nat)]) (List.length_map ..), by omega, by omega, for_range (n := as.length) (fun i σ H2 => ∃ y3, σ = [some (.ref a), some (.ref b), some (.ref e), y3] ∧ H2 = H) ⟨none, rfl, rfl⟩ ?_ ?_⟩
    · rintro i σ H2 hi ⟨y3, rfl, rfl⟩
      have ei : (0 : Int) + (i : Nat) = (i : Nat) := Int.zero_add _
      rw [ei]
      have h1 : (as.map V.str)[i]? = some (.str as[i]) := by rw [List.getElem?_map, List.getElem?_eq_getElem hi]; rfl
      have h2 : ((as.map c).map V.str)[i]? = some (.str (c as[i])) := by rw [List.getElem?_map, List.getElem?_map, List.getElem?_eq_getElem hi]; rfl
      refine ⟨_, rfl, _, rfl, b, _, _, _, rfl, rfl, hb, atI_nat h2, _, rfl, e, rfl, .inl ⟨_, .inl hk⟩, _, rfl, _, rfl, a, _, _, _, rfl, rfl, ha, atI_nat h1, _, rfl, _, rfl, a, _, _, _, rfl, rfl, ha, atI_nat h1, _, DGet.k (k := Sum.inr as[i]) hk, ?_⟩
      rw [kc]
      exact ⟨rfl, _, rfl, cF (k := !decide (V.str (c as[i]) = V.str (c as[i]))) (nd_f rfl) ⟨_, rfl, rfl⟩⟩
    · rintro σ H2 ⟨y3, rfl, rfl⟩
      exact q
theorem sc_all_bound : FnScope ["f", "found", "part"] ["f"] (defScope (top 80)) := ⟨rfl, rfl, rfl, by decide +kernel, rfl, by decide +kernel, by decide +kernel⟩
theorem has_all_bound (D : Def K mg "_law_all_bound" ["f"] (top 80)) (T : Txt mg) (C1 : Has P w K mg base 1 "_law_parts" ["f"] (spParts K)) (C2 : Has P w K mg base 1 "_law_bound_here" ["f"] (spLook K fun f => tS f.hd.own)) :
    ∀ n : Nat, Has P w K mg base (2 + n) "_law_all_bound" ["f"] (spAllB K n) := by
  obtain ⟨f1, fd1, G_law_parts, g_law_parts, k_law_parts, b_law_parts⟩ := C1
  obtain ⟨f2, fd2, G_law_bound_here, g_law_bound_here, k_law_bound_here, b_law_bound_here⟩ := C2
  intro n
  induction n with
  | zero =>
    refine D.has fun f fd F => F.ok sc_all_bound (fun vs H Q E h => ?_) (fun cdv A outer s H vs Q E hr h => ?_)
    · obtain ⟨v, f, rfl, _⟩ := h; rfl
    · obtain ⟨v, f, rfl, _, _, h0, _⟩ := h
      have := dep_pos f
      omega
  | succ n ih =>
    obtain ⟨f4, fd4, G_law_all_bound, g_law_all_bound, k_law_all_bound, b_law_all_bound⟩ := ih
    refine D.has fun f fd F => F.ok sc_all_bound (fun vs H Q E h => ?_) (fun cdv A outer s H vs Q E hr h => ?_)
    · obtain ⟨v, f, rfl, _⟩ := h; rfl
    · obtain ⟨v, f, rfl, dp, ok, hn, hl, q⟩ := h
      have R_law_parts : Room 1 _ := hr.mono (Nat.le_trans (by decide) (Nat.le_add_right 2 n))
      have R_law_bound_here : Room 1 _ := hr.mono (Nat.le_trans (by decide) (Nat.le_add_right 2 n))
      have R_law_all_bound : Room (2 + n) _ := hr
      refine ⟨_, PSs.nox (pss_cons (ps_set (i := 1) sc_all_bound.nd rfl (Or.inl rfl) (pe_callTy call_list_of (by rfl) T.n_list (by decide +kernel) (pa_cons (pe_call G_law_bound_here R_law_bound_here (by rfl) g_law_bound_here k_law_bound_here b_law_bound_here .nil pass0 (pa_cons (pv 0) pa_nil)) pa_nil))) (pss_cons (ps_for PassesOwn.never rfl (pi_list (pe_call G_law_parts R_law_parts (by rfl) g_law_parts k_law_parts b_law_parts .nil pass0 (pa_cons (pv 0) pa_nil))) (pg_name (i := 2) sc_all_bound.nd rfl (Or.inl rfl)) (pss_one (ps_expr (pe_bm PySem.F.plainAttrs_list PySem.F.slot_list_extend PySem.F.type_list_extend mt_extend (pv 1) (pa_cons (pe_call G_law_all_bound R_law_all_bound (by rfl) g_law_all_bound k_law_all_bound b_law_all_bound .nil pass0 (pa_cons (pv 2) pa_nil)) pa_nil))))) (pss_one (ps_ret (pv 1))))), ?_⟩
      refine ⟨_, rfl, v, f, rfl, dp, ok, fun H1 x1 s1 d1 => ?_⟩
      obtain ⟨t, rfl, ht⟩ := tS_inv d1
      refine ⟨t, _, rfl, .inr ht, fun c nc => ?_⟩
      have nc0 : H c = none := Same.none s1 nc
      obtain ⟨h, ps⟩ := f
      have hc2 : (upd H1 c (.lst ((Fm.mk h ps).hd.own.map V.str))) c = some (.lst ((Fm.mk h ps).hd.own.map V.str)) := upd_same
      have s2 : Same H (upd H1 c (.lst ((Fm.mk h ps).hd.own.map V.str))) := s1.trans (same_upd nc)
      revert hc2 s2
      generalize upd H1 c (.lst ((Fm.mk h ps).hd.own.map V.str)) = H2
      intro hc2 s2
      refine ⟨_, rfl, v, _, rfl, Dp.same s2 dp, ok, fun H3 r ys s3 nr hr3 hy => ?_⟩
      have hy : DpAll K H3 ys (ps.map Fm.data) := hy
      have hc3 : H3 c = some (.lst (h.own.map V.str)) := s3 _ _ hc2
      have ncr : r ≠ c := fun z => by rw [z, hc2] at nr; cases nr
      have hl2 : h.own.length + ((ps.map Fm.allB).flatten).length ≤ 10000 := by
        rw [Fm.allB_mk, List.length_append] at hl
        exact hl
      refine ⟨r, rfl, ⟨_, SqL.of hr3⟩, for_list (K := K) (a := r) (xs := ys) (fun i σ H4 => ∃ y2 : Option V, σ = [some v, some (.ref c), y2] ∧ Kp c H3 H4 ∧ H4 c = some (.lst ((h.own ++ ((ps.take i).map Fm.allB).flatten).map V.str)))
        ⟨none, rfl, .refl _ _, by rw [hc3]; simp⟩ (fun i σ H4 _ ⟨_, _, k4, _⟩ => SqL.of (k4 _ _ hr3 ncr)) ?_ ?_⟩
      · rintro i y σ H4 hi ⟨y2, rfl, k4, hc4⟩
        obtain ⟨dd, hd, dpy⟩ := DpAll.get' hy hi
        obtain ⟨g, hg, rfl⟩ := get_map hd
        have mem := List.mem_of_getElem? hg
        have dl : g.dep < (Fm.mk h ps).dep := dep_part mem
        have ft := flat_take (ps.map Fm.allB) i g.allB (by rw [List.getElem?_map, hg]; rfl)
        rw [← List.map_take] at ft
        refine ⟨_, rfl, .inl ⟨rfl, _, SqL.of hc4⟩, _, rfl, y, g, rfl, Dp.kl (.kp k4 hc3) dpy g.noL, ok.part mem, by omega, by omega, fun H5 r2 s5 nr2 hr2 => ?_⟩
        refine ⟨c, r2, _, _, rfl, rfl, s5 _ _ hc4, hr2, ?_, ?_⟩
        · rw [List.length_map, List.length_map, List.length_append]
          exact Nat.le_trans (show _ ≤ 10000 by omega) (by show 10000 ≤ sizeLine; decide)
        · refine ⟨_, rfl, fun b o eb nb => ?_, ?_⟩
          · rw [upd_ne nb]
            exact s5 _ _ (k4 b o eb nb)
          · have hg : ps[i]? = some g := hg
            rw [upd_same, List.take_add_one, hg, ← List.map_append, List.map_append (f := Fm.allB), List.flatten_append]
            have e1 : ((some g).toList.map Fm.allB).flatten = g.allB := by simp
            rw [e1, List.append_assoc]
      · rintro σ H4 ⟨y2, rfl, k4, hc4⟩
        rw [List.take_of_length_le (show ps.length ≤ ys.length by rw [DpAll.length hy, List.length_map]; exact Nat.le_refl _)] at hc4
        refine ⟨_, rfl, q H4 c (fun b o eb => k4 b o (s3 _ _ (s2 _ _ eb)) (ne_of_none eb nc0)) nc0 ?_⟩
        rw [Fm.allB_mk]
        exact hc4
end
/-! ### the law's walk along two formulas -/
theorem andF {t u : TT} {σ : L2.St} {H : Hp} {Q : Bool → Hp → Prop} (c : Bool) (ht : ∀ Q' : Bool → Hp → Prop, (∀ H1, Same H H1 → Q' c H1) → t σ H Q') (hu : c = true → ∀ H1, Same H H1 → ∀ Q' : Bool → Hp → Prop, Q' false H1 → u σ H1 Q')
    (q : ∀ H1, Same H H1 → Q false H1) : tAnd t u σ H Q := by
  refine ht _ fun H1 s1 => ?_
  cases c with
  | true => exact cT rfl (hu rfl H1 s1 _ (q H1 s1))
  | false => exact cF rfl (q H1 s1)
theorem word_kd (h : Hd) : h.word = h.kd.word := by cases h <;> rfl
theorem re_word {h : Hd} {as us : List Str} (r : ReOk h as us) : (h.re as us).word = h.word := by rw [word_kd, word_kd, re_kd r]
theorem re_rest_len {h : Hd} {as us : List Str} (r : ReOk h as us) {ds es : List PyData} (l : es.length = ds.length) : ((h.re as us).rest es).length = (h.rest ds).length := by
  cases h with
  | eq x y => obtain ⟨a, b, e⟩ := two_of r.la; subst e; rfl
  | less x y => obtain ⟨a, b, e⟩ := two_of r.la; subst e; rfl
  | no => exact l
  | ex vs => simp only [Hd.re, Hd.withArgs, Hd.withOwn, Hd.rest, List.length_cons, l]
  | al vs => simp only [Hd.re, Hd.withArgs, Hd.withOwn, Hd.rest, List.length_cons, l]
  | lfp n vs bs => simp only [Hd.re, Hd.withArgs, Hd.withOwn, Hd.rest, List.length_cons, List.length_append, l]
  | pfp n vs bs => simp only [Hd.re, Hd.withArgs, Hd.withOwn, Hd.rest, List.length_cons, List.length_append, l]
  | tc vs bs => simp only [Hd.re, Hd.withArgs, Hd.withOwn, Hd.rest, List.length_cons, List.length_append, l]
  | gs n k => simp only [Hd.re, Hd.withArgs, Hd.withOwn, Hd.rest, List.length_cons, l]
  | _ => rfl
def Kd.nam : Kd → Bool
  | .rel => true
  | .lfp => true
  | .pfp => true
  | .gs => true
  | _ => false
theorem kd_all {p : Kd → Bool} (b : (([.rel, .eq, .less, .no, .con, .dis, .ex, .al, .lfp, .pfp, .tc, .gs] : List Kd).all p) = true) (k : Kd) : p k = true := by
  refine List.all_eq_true.mp b k ?_
  cases k <;> simp
theorem nam_in (h : Hd) : inV (.str h.word) [.str "rel", .str "lfp", .str "pfp", .str "guess"] = h.kd.nam := by
  rw [word_kd]
  exact eq_of_beq (kd_all (p := fun k => inV (.str k.word) [.str "rel", .str "lfp", .str "pfp", .str "guess"] == k.nam) (by decide +kernel) h.kd)
def Kd.joi : Kd → Bool
  | .con => true
  | .dis => true
  | _ => false
theorem joi_in (h : Hd) : inV (.str h.word) [.str "and", .str "or"] = h.kd.joi := by
  rw [word_kd]
  exact eq_of_beq (kd_all (p := fun k => inV (.str k.word) [.str "and", .str "or"] == k.joi) (by decide +kernel) h.kd)
def Kd.isg : Kd → Bool
  | .gs => true
  | _ => false
theorem gs_eq (h : Hd) : decide (V.str h.word = V.str "guess") = h.kd.isg := by
  rw [word_kd]
  exact eq_of_beq (kd_all (p := fun k => decide (V.str k.word = V.str "guess") == k.isg) (by decide +kernel) h.kd)
theorem nam_at {h : Hd} {as us : List Str} (n : h.kd.nam = true) (ds es : List PyData) : ∃ z, (PyData.str h.word :: h.rest ds)[1]? = some (.str z) ∧ (PyData.str (h.re as us).word :: (h.re as us).rest es)[1]? = some (.str z) := by
  cases h <;> first | exact ⟨_, rfl, rfl⟩ | cases n
theorem gs_at {h : Hd} {as us : List Str} (n : h.kd.isg = true) (ds es : List PyData) : ∃ i : Int, (PyData.str h.word :: h.rest ds)[2]? = some (.int i) ∧ (PyData.str (h.re as us).word :: (h.re as us).rest es)[2]? = some (.int i) := by
  cases h <;> first | exact ⟨_, rfl, rfl⟩ | cases n
theorem joi_at {h : Hd} {as us : List Str} (n : h.kd.joi = true) (ds es : List PyData) : (PyData.str h.word :: h.rest ds)[1]? = some (.tuple ds) ∧ (PyData.str (h.re as us).word :: (h.re as us).rest es)[1]? = some (.tuple es) := by
  cases h <;> first | exact ⟨rfl, rfl⟩ | cases n
def spSame (K : PySem.W.Frag) (n : Nat) : Sp := fun vs H Q _ => ∃ (x y : V) (e : Addr) (f g : Fm) (c : Str → Str) (m : Nat), vs = [x, y, .ref e] ∧ Dp K H x f.data ∧ Dp K H y g.data ∧ f.Ok ∧ g.Ok ∧ f.dep ≤ n ∧ Sm c f g ∧ Cg H e c m ∧ m + 10 * f.dep ≤ 1000 ∧ ∀ H' : Hp, Same H H' → Q (.bl true) H'
theorem Cg.same {H H' : Hp} {e : Addr} {c : Str → Str} {m : Nat} (g : Cg H e c m) (s : Same H H') : Cg H' e c m := by
  obtain ⟨kvs, h, r⟩ := g
  exact ⟨kvs, s _ _ h, r⟩
section
variable {P : Program} {w : World} {K : PySem.W.Frag} {mg : Str → Option Value} {base : Heap}
theorem sc_same : FnScope ["f", "g", "pairs", "bound", "other", "inner_v", "k", "theirs", "mine"] ["f", "g", "pairs"] (defScope (top 79)) := ⟨rfl, rfl, rfl, by decide +kernel, rfl, by decide +kernel, by decide +kernel⟩
theorem has_same (D : Def K mg "_law_same" ["f", "g", "pairs"] (top 79)) (T : Txt mg) (C1 : Has P w K mg base 1 "_law_parts" ["f"] (spParts K)) (C2 : Has P w K mg base 1 "_law_bound_here" ["f"] (spLook K fun f => tS f.hd.own)) (C3 : Has P w K mg base 1 "_law_own" ["f"] (spLook K fun f => tS f.hd.args))
    (C5 : Has P w K mg base 1 "_law_same_names" ["first", "second", "pairs"] (spSameN K)) :
    ∀ n : Nat, Has P w K mg base (2 + n) "_law_same" ["f", "g", "pairs"] (spSame K n) := by
  obtain ⟨f1, fd1, G_law_parts, g_law_parts, k_law_parts, b_law_parts⟩ := C1
  obtain ⟨f2, fd2, G_law_bound_here, g_law_bound_here, k_law_bound_here, b_law_bound_here⟩ := C2
  obtain ⟨f3, fd3, G_law_own, g_law_own, k_law_own, b_law_own⟩ := C3
  obtain ⟨f5, fd5, G_law_same_names, g_law_same_names, k_law_same_names, b_law_same_names⟩ := C5
  intro n
  induction n with
  | zero =>
    refine D.has fun f fd F => F.ok sc_same (fun vs H Q E h => ?_) (fun cdv A outer s H vs Q E hr h => ?_)
    · obtain ⟨x, y, e, f, g, c, m, rfl, _⟩ := h; rfl
    · obtain ⟨x, y, e, f, g, c, m, rfl, _, _, _, _, h0, _⟩ := h
      have := dep_pos f
      omega
  | succ n ih =>
    obtain ⟨f4, fd4, G_law_same, g_law_same, k_law_same, b_law_same⟩ := ih
    refine D.has fun f fd F => F.ok sc_same (fun vs H Q E h => ?_) (fun cdv A outer s H vs Q E hr h => ?_)
    · obtain ⟨x, y, e, f, g, c, m, rfl, _⟩ := h; rfl
    · obtain ⟨x, y, e, f, g, c, m, rfl, dx, dy, okf, okg, hn, sm, cg, md, q⟩ := h
      have R_law_parts : Room 1 _ := hr.mono (Nat.le_trans (by decide) (Nat.le_add_right 2 n))
      have R_law_bound_here : Room 1 _ := hr.mono (Nat.le_trans (by decide) (Nat.le_add_right 2 n))
      have R_law_own : Room 1 _ := hr.mono (Nat.le_trans (by decide) (Nat.le_add_right 2 n))
      have R_law_same_names : Room 1 _ := hr.mono (Nat.le_trans (by decide) (Nat.le_add_right 2 n))
      have R_law_same : Room (2 + n) _ := hr
      refine ⟨_, PSs.nox (pss_cons (ps_if (PW.pt (pw_or (pt_not (pt_val (pe_callB call_isi (by rfl) T.n_isinstance (by decide +kernel) (pa_cons (pv 1) (pa_cons (pe_bltn (v := .ty "tuple") (by rfl) T.n_tuple (by decide +kernel) rfl) pa_nil))))) (pw_or (pt_cmpR op_ne (pe_callB call_len_seq (by rfl) T.n_len PySem.boot_len (pa_cons (pv 1) pa_nil)) (pe_callB call_len_seq (by rfl) T.n_len PySem.boot_len (pa_cons (pv 0) pa_nil)) (nomark _)) (pw_or1 (pt_cmpR op_ne (pe_ix ix_tup (pv 1) pe_int (fun _ _ => rfl)) (pe_ix ix_tup (pv 0) pe_int (fun _ _ => rfl)) (nomark _)))))) (pss_one (ps_ret pe_bl)) pss_nil) (pss_cons (ps_if (PW.pt (pw_and (pt_cmpR op_in_seq (pe_ix ix_tup (pv 0) pe_int (fun _ _ => rfl)) (pe_lst (pa_cons pe_str (pa_cons pe_str (pa_cons pe_str (pa_cons pe_str pa_nil))))) (by rfl)) (pw_and1 (pt_cmpR op_ne (pe_ix ix_tup (pv 1) pe_int (fun _ _ => rfl)) (pe_ix ix_tup (pv 0) pe_int (fun _ _ => rfl)) (nomark _))))) (pss_one (ps_ret pe_bl)) pss_nil) (pss_cons (ps_if (PW.pt (pw_and (pt_cmpR op_eq (pe_ix ix_tup (pv 0) pe_int (fun _ _ => rfl)) pe_str (nomark _)) (pw_and1 (pt_cmpR op_ne (pe_ix ix_tup (pv 1) pe_int (fun _ _ => rfl)) (pe_ix ix_tup (pv 0) pe_int (fun _ _ => rfl)) (nomark _))))) (pss_one (ps_ret pe_bl)) pss_nil) (pss_cons (ps_if (PW.pt (pw_and (pt_cmpR op_in_seq (pe_ix ix_tup (pv 0) pe_int (fun _ _ => rfl)) (pe_lst (pa_cons pe_str (pa_cons pe_str pa_nil))) (by rfl)) (pw_and1 (PW.pt (pw_or (pt_not (pt_val (pe_callB call_isi (by rfl) T.n_isinstance (by decide +kernel) (pa_cons (pe_ix ix_tup (pv 1) pe_int (fun _ _ => rfl)) (pa_cons (pe_bltn (v := .ty "tuple") (by rfl) T.n_tuple (by decide +kernel) rfl) pa_nil))))) (pw_or1 (pt_cmpR op_ne (pe_callB call_len_seq (by rfl) T.n_len PySem.boot_len (pa_cons (pe_ix ix_tup (pv 1) pe_int (fun _ _ => rfl)) pa_nil)) (pe_callB call_len_seq (by rfl) T.n_len PySem.boot_len (pa_cons (pe_ix ix_tup (pv 0) pe_int (fun _ _ => rfl)) pa_nil)) (nomark _)))))))) (pss_one (ps_ret pe_bl)) pss_nil) (pss_cons (ps_if (pt_not (pt_val (pe_call G_law_same_names R_law_same_names (by rfl) g_law_same_names k_law_same_names b_law_same_names .nil pass0 (pa_cons (pe_call G_law_own R_law_own (by rfl) g_law_own k_law_own b_law_own .nil pass0 (pa_cons (pv 0) pa_nil)) (pa_cons (pe_call G_law_own R_law_own (by rfl) g_law_own k_law_own b_law_own .nil pass0 (pa_cons (pv 1) pa_nil)) (pa_cons (pv 2) pa_nil)))))) (pss_one (ps_ret pe_bl)) pss_nil) (pss_cons (ps_set (i := 3) sc_same.nd rfl (Or.inl rfl) (pe_call G_law_bound_here R_law_bound_here (by rfl) g_law_bound_here k_law_bound_here b_law_bound_here .nil pass0 (pa_cons (pv 0) pa_nil))) (pss_cons (ps_set (i := 4) sc_same.nd rfl (Or.inl rfl) (pe_call G_law_bound_here R_law_bound_here (by rfl) g_law_bound_here k_law_bound_here b_law_bound_here .nil pass0 (pa_cons (pv 1) pa_nil))) (pss_cons (ps_if (PW.pt (pw_or (pt_not (pt_val (pe_callB call_isi (by rfl) T.n_isinstance (by decide +kernel) (pa_cons (pv 4) (pa_cons (pe_bltn (v := .ty "tuple") (by rfl) T.n_tuple (by decide +kernel) rfl) pa_nil))))) (pw_or1 (pt_cmpR op_ne (pe_callB call_len_seq (by rfl) T.n_len PySem.boot_len (pa_cons (pv 4) pa_nil)) (pe_callB call_len_seq (by rfl) T.n_len PySem.boot_len (pa_cons (pv 3) pa_nil)) (nomark _))))) (pss_one (ps_ret pe_bl)) pss_nil) (pss_cons (ps_set (i := 5) sc_same.nd rfl (Or.inr rfl) (pe_callTy call_dictD (by rfl) T.n_dict (by decide +kernel) (pa_cons (pv 2) pa_nil))) (pss_cons (ps_for PassesOwn.never rfl (pi_range1 (by rfl) T.n_range (pa_cons (pe_callB call_len_seq (by rfl) T.n_len PySem.boot_len (pa_cons (pv 3) pa_nil)) pa_nil)) (pg_name (i := 6) sc_same.nd rfl (Or.inl rfl)) (pss_one (ps_dput (hu_of hr) (pv 5) (pe_ix ix_tup (pv 3) (pv 6) (fun _ _ => rfl)) (pe_ix ix_tup (pv 4) (pv 6) (fun _ _ => rfl)) rfl))) (pss_cons (ps_set (i := 7) sc_same.nd rfl (Or.inr rfl) (pe_call G_law_parts R_law_parts (by rfl) g_law_parts k_law_parts b_law_parts .nil pass0 (pa_cons (pv 1) pa_nil))) (pss_cons (ps_set (i := 8) sc_same.nd rfl (Or.inr rfl) (pe_call G_law_parts R_law_parts (by rfl) g_law_parts k_law_parts b_law_parts .nil pass0 (pa_cons (pv 0) pa_nil))) (pss_one (ps_ret (pe_cmpR op_eq (pe_callB call_len_seq (by rfl) T.n_len PySem.boot_len (pa_cons (pe_lc (own := [("k", 6)]) rfl sc_same.nd (pi_range1 (by rfl) T.n_range (pa_cons (pe_callB call_len_seq (by rfl) T.n_len PySem.boot_len (pa_cons (pv 8) pa_nil)) pa_nil)) (blkOk_by (N := ["f", "g", "pairs", "bound", "other", "inner_v", "k", "theirs", "mine"]) (sc := defScope (top 79)) (by decide +kernel)) (fun _ _ _ _ _ => (pg_name (i := 6) sc_same.nd rfl (Or.inl rfl))) (fun _ _ _ _ _ => (pts_one (pt_not (pt_val (pe_call G_law_same R_law_same (by rfl) g_law_same k_law_same b_law_same .nil pass0 (pa_cons (pe_ix (ix_listK (K := K) rfl) (pv 8) (pv 6) (fun _ _ => rfl)) (pa_cons (pe_ix (ix_listK (K := K) rfl) (pv 7) (pv 6) (fun _ _ => rfl)) (pa_cons (pv 5) pa_nil)))))))) (fun _ _ _ _ _ => (pv 6))) pa_nil)) pe_int (nomark _)))))))))))))))), ?_⟩
      have dx0 := dx
      have dy0 := dy
      have sm0 := sm
      cases sm with
      | @mk c h ps qs us r fr l psm =>
      have lds : (qs.map Fm.data).length = (ps.map Fm.data).length := by rw [List.length_map, List.length_map, l]
      rw [Fm.data_mk] at dx dy
      obtain ⟨a, xs, rfl, hT, hx⟩ := hd_inv dx
      obtain ⟨b, ys, rfl, hU, hy⟩ := hd_inv dy
      have lx := DpAll.length hx
      have ly := DpAll.length hy
      have lxy : ys.length = xs.length := by rw [lx, ly]; exact re_rest_len r lds
      refine ⟨_, rfl, _, _, _, _, _, rfl, .ty _, ty_tup hU, kit_ty (b := "tuple") (r := true) (by decide +kernel), _, rfl, iteF ?_⟩
      refine ⟨_, rfl, b, _, rfl, .inr hU, _, rfl, a, _, rfl, .inr hT, rfl, _, rfl, ?_⟩
      refine cF (k := !decide (V.int ((V.str (h.re (h.args.map c) us).word :: ys).length : Nat) = V.int ((V.str h.word :: xs).length : Nat))) (nd_f (by rw [List.length_cons, List.length_cons, lxy])) ?_
      refine ⟨_, rfl, b, _, _, _, rfl, rfl, hU, atI_nat (j := 0) rfl, _, rfl, a, _, _, _, rfl, rfl, hT, atI_nat (j := 0) rfl, rfl, _, rfl, ?_⟩
      refine cF (k := !decide (V.str (h.re (h.args.map c) us).word = V.str h.word)) (nd_f (by rw [re_word r])) ?_
      -- the names of relations
      have hxA := DpAll.cons (K := K) (H := H) (.str h.word) hx
      have hyA := DpAll.cons (K := K) (H := H) (.str (h.re (h.args.map c) us).word) hy
      try dsimp only [tNext, tSeq, tIfS]
      show tAnd _ _ _ _ _
      refine andF h.kd.nam ?A1 ?B1 ?C1
      case A1 =>
        refine fun Q' hq => ⟨_, rfl, a, _, _, _, rfl, rfl, hT, atI_nat (j := 0) rfl, (by show 4 ≤ sizeLine; decide), fun p1 np1 => ⟨_, _, rfl, .inl (SqL.of upd_same), rfl, rfl, _, rfl, ?_⟩⟩
        show Q' (inV (.str h.word) [.str "rel", .str "lfp", .str "pfp", .str "guess"]) _
        rw [nam_in]
        exact hq _ (same_upd np1)
      case B1 =>
        intro hc H1 s1 Q' hq
        obtain ⟨z, z1, z2⟩ := nam_at (as := h.args.map c) (us := us) hc (ps.map Fm.data) (qs.map Fm.data)
        obtain ⟨v1, a1, d1⟩ := DpAll.get hxA z1
        obtain ⟨v2, a2, d2⟩ := DpAll.get hyA z2
        obtain rfl := Dp.str_inv d1
        obtain rfl := Dp.str_inv d2
        refine ⟨_, rfl, b, _, _, _, rfl, rfl, Same.sqt s1 hU, atI_nat a2, _, rfl, a, _, _, _, rfl, rfl, Same.sqt s1 hT, atI_nat a1, rfl, _, rfl, ?_⟩
        rw [show (!decide (V.str z = V.str z)) = false from nd_f rfl]
        exact hq
      refine fun H1 s1 => iteF ?_
      -- the arity of a guess
      try dsimp only [tNext, tSeq, tIfS]
      show tAnd _ _ _ _ _
      refine andF h.kd.isg ?A2 ?B2 ?C2
      case A2 =>
        refine fun Q' hq => ⟨_, rfl, a, _, _, _, rfl, rfl, Same.sqt s1 hT, atI_nat (j := 0) rfl, rfl, _, rfl, ?_⟩
        show Q' (decide (V.str h.word = V.str "guess")) _
        rw [gs_eq]
        exact hq _ (.refl _)
      case B2 =>
        intro hc H2 s2 Q' hq
        obtain ⟨z, z1, z2⟩ := gs_at (as := h.args.map c) (us := us) hc (ps.map Fm.data) (qs.map Fm.data)
        obtain ⟨v1, a1, d1⟩ := DpAll.get hxA z1
        obtain ⟨v2, a2, d2⟩ := DpAll.get hyA z2
        obtain rfl := Dp.int_inv d1
        obtain rfl := Dp.int_inv d2
        refine ⟨_, rfl, b, _, _, _, rfl, rfl, Same.sqt (s1.trans s2) hU, atI_nat a2, _, rfl, a, _, _, _, rfl, rfl, Same.sqt (s1.trans s2) hT, atI_nat a1, rfl, _, rfl, ?_⟩
        rw [show (!decide (V.int z = V.int z)) = false from nd_f rfl]
        exact hq
      refine fun H2 s2 => iteF ?_
      have s02 := s1.trans s2
      -- how many are joined
      try dsimp only [tNext, tSeq, tIfS]
      show tAnd _ _ _ _ _
      refine andF h.kd.joi ?A3 ?B3 ?C3
      case A3 =>
        refine fun Q' hq => ⟨_, rfl, a, _, _, _, rfl, rfl, Same.sqt s02 hT, atI_nat (j := 0) rfl, (by show 2 ≤ sizeLine; decide), fun p1 np1 => ⟨_, _, rfl, .inl (SqL.of upd_same), rfl, rfl, _, rfl, ?_⟩⟩
        show Q' (inV (.str h.word) [.str "and", .str "or"]) _
        rw [joi_in]
        exact hq _ (same_upd np1)
      case B3 =>
        intro hc H3 s3 Q' hq
        have s03 := s02.trans s3
        obtain ⟨z1, z2⟩ := joi_at (as := h.args.map c) (us := us) hc (ps.map Fm.data) (qs.map Fm.data)
        obtain ⟨v1, a1, d1⟩ := DpAll.get hxA z1
        obtain ⟨v2, a2, d2⟩ := DpAll.get hyA z2
        obtain ⟨w1, vs1, rfl, hw1, hv1⟩ := Dp.tup_inv d1
        obtain ⟨w2, vs2, rfl, hw2, hv2⟩ := Dp.tup_inv d2
        refine ⟨_, rfl, b, _, _, _, rfl, rfl, Same.sqt s03 hU, atI_nat a2, _, _, _, _, _, rfl, .ty _, ty_tup (Same.sqt s03 hw2), kit_ty (b := "tuple") (r := true) (by decide +kernel), _, rfl, iteF ?_⟩
        refine ⟨_, rfl, b, _, _, _, rfl, rfl, Same.sqt s03 hU, atI_nat a2, w2, _, rfl, .inr (Same.sqt s03 hw2), _, rfl, a, _, _, _, rfl, rfl, Same.sqt s03 hT, atI_nat a1, w1, _, rfl, .inr (Same.sqt s03 hw1), rfl, _, rfl, ?_⟩
        have e1 := DpAll.length hv1
        have e2 := DpAll.length hv2
        rw [show (!decide (V.int ((vs2.length : Nat) : Int) = V.int ((vs1.length : Nat) : Int))) = false from nd_f (by rw [e1, e2, lds])]
        exact hq
      refine fun H3 s3 => iteF ?_
      have s03 := s02.trans s3
      -- the arguments
      refine ⟨_, rfl, _, _, rfl, Dp.same s03 dx0, okf, fun H4 r4 s4 d4 => ⟨_, rfl, _, _, rfl, Dp.same (s03.trans s4) dy0, okg, fun H5 r5 s5 d5 => ⟨_, rfl, r4, r5, e, h.args, c, m, rfl, Dp.same s5 d4, ?_, ?_, cg.same ((s03.trans s4).trans s5), true, rfl, iteF ?_⟩⟩⟩
      · have d5 : Dp K H5 r5 (tS (h.re (h.args.map c) us).args) := d5
        rw [re_args r] at d5
        exact d5
      · have := args_len okf.hd_
        omega
      have s05 := (s03.trans s4).trans s5
      -- what is bound
      refine ⟨_, rfl, _, _, rfl, Dp.same s05 dx0, okf, fun H6 r6 s6 d6 => ?_⟩
      obtain ⟨t6, rfl, ht6⟩ := tS_inv (show Dp K H6 r6 (tS h.own) from d6)
      refine ⟨_, rfl, _, _, rfl, Dp.same (s05.trans s6) dy0, okg, fun H7 r7 s7 d7 => ?_⟩
      have d7 : Dp K H7 r7 (tS (h.re (h.args.map c) us).own) := d7
      rw [re_own r] at d7
      obtain ⟨t7, rfl, ht7⟩ := tS_inv d7
      have ht6 := Same.sqt s7 ht6
      have s07 := (s05.trans s6).trans s7
      refine ⟨_, rfl, _, _, _, _, _, rfl, .ty _, ty_tup ht7, kit_ty (b := "tuple") (r := true) (by decide +kernel), _, rfl, iteF ?_⟩
      refine ⟨_, rfl, t7, _, rfl, .inr ht7, _, rfl, t6, _, rfl, .inr ht6, rfl, _, rfl, ?_⟩
      refine cF (k := !decide (V.int ((us.map V.str).length : Nat) = V.int ((h.own.map V.str).length : Nat))) (nd_f (by rw [List.length_map, List.length_map, r.lu])) ?_
      have ol : h.own.length ≤ 8 := own_le okf.hd_
      have mdp := dep_pos (Fm.mk h ps)
      obtain ⟨kvs, hk7, kl, kc⟩ := cg.same s07
      refine ⟨_, rfl, e, kvs, rfl, .inl hk7, fun p np => ?_⟩
      have sp := same_upd (o := .dK kvs) np
      have hp : (upd H7 p (.dK kvs)) p = some (.dK kvs) := upd_same
      have s08 := s07.trans sp
      have nH : H p = none := Same.none s07 np
      refine ⟨_, rfl, t6, _, rfl, .inr (Same.sqt sp ht6), h.own.length, congrArg (fun n : Nat => [V.int (n : Nat)]) (List.length_map ..), by omega, by omega, for_range (n := h.own.length) (fun i σ H8 => ∃ (y6 : Option V) (kvs' : List (Key × V)), σ = [some (.ref a), some (.ref b), some (.ref e), some (.ref t6), some (.ref t7), some (.ref p), y6, none, none] ∧ H8 p = some (.dK kvs') ∧ kvs'.length ≤ m + i ∧ (∀ x, (valV kvs' (Sum.inr x)).getD (.str x) = .str (updC c (h.own.take i) (us.take i) x)) ∧ ∀ b o, H7 b = some o → H8 b = some o)
        ⟨none, kvs, rfl, hp, kl, fun x => by rw [kc]; rfl, fun b o eb => sp b o eb⟩ ?_ ?_⟩
      · rintro i σ H8 hi ⟨y6, kvs', rfl, h8, l8, c8, k8⟩
        have ei : (0 : Int) + (i : Nat) = (i : Nat) := Int.zero_add _
        rw [ei]
        have iu : i < us.length := by rw [r.lu]; exact hi
        have g1 : (h.own.map V.str)[i]? = some (.str h.own[i]) := by rw [List.getElem?_map, List.getElem?_eq_getElem hi]; rfl
        have g2 : (us.map V.str)[i]? = some (.str us[i]) := by rw [List.getElem?_map, List.getElem?_eq_getElem iu]; rfl
        have k8' : Same H7 H8 := fun b o eb => k8 b o eb
        refine ⟨_, rfl, _, rfl, t7, _, _, _, rfl, rfl, Same.sqt k8' ht7, atI_nat g2, _, rfl, _, rfl, _, rfl, t6, _, _, _, rfl, rfl, Same.sqt k8' ht6, atI_nat g1, p, _, rfl, DPut.k (k := Sum.inr h.own[i]) h8 (small20 (by omega)), ?_⟩
        refine ⟨_, _, rfl, upd_same, Nat.le_trans putK_len (by omega), fun x => ?_, fun b ob eb => ?_⟩
        · rw [valV_put, List.take_add_one, List.take_add_one, List.getElem?_eq_getElem hi, List.getElem?_eq_getElem iu]
          show _ = V.str (updC c (h.own.take i ++ [h.own[i]]) (us.take i ++ [us[i]]) x)
          rw [updC_snoc (by rw [List.length_take, List.length_take, r.lu])]
          by_cases ex : x = h.own[i]
          · rw [if_pos (congrArg Sum.inr ex)]
            show V.str us[i] = V.str (if x = h.own[i] then us[i] else _)
            rw [if_pos ex]
          · rw [if_neg fun z => ex (Sum.inr.inj z), c8]
            show _ = V.str (if x = h.own[i] then us[i] else _)
            rw [if_neg ex]
        · rw [upd_ne fun z => by rw [z, np] at eb; cases eb]
          exact k8 b ob eb
      · rintro σ H8 ⟨y6, kvs', rfl, h8, l8, c8, k8⟩
        rw [List.take_length, ← r.lu, List.take_length] at c8
        have s18 : Same H H8 := fun b o eb => k8 b o (s07 _ _ eb)
        refine ⟨_, rfl, _, _, rfl, Dp.same s18 dy0, okg, fun H9 r9 ys9 s9 nr9 hr9 hy9 => ?_⟩
        have hy9 : DpAll K H9 ys9 (qs.map Fm.data) := hy9
        refine ⟨_, rfl, _, _, rfl, Dp.same (s18.trans s9) dx0, okf, fun H10 r10 xs10 s10 nr10 hr10 hx10 => ?_⟩
        have hx10 : DpAll K H10 xs10 (ps.map Fm.data) := hx10
        have e10 : xs10.length = ps.length := by rw [DpAll.length hx10, List.length_map]
        have p40 := parts_len okf.hd_
        have s0A := (s18.trans s9).trans s10
        refine ⟨_, rfl, r10, _, rfl, .inl (SqL.of hr10), ps.length, congrArg (fun n : Nat => [V.int (n : Nat)]) e10, by omega, by omega, fun L nL => ?_⟩
        refine lc_it walk_range (fun i H11 => Same H10 H11 ∧ H11 L = some (.lst [])) ⟨same_upd nL, upd_same⟩ (fun _ _ _ _ => trivial) ?_ ?_
        · rintro i y H11 H12 hi ⟨s11, hL⟩ ⟨rfl, rfl⟩
          have ei : (0 : Int) + (i : Nat) = (i : Nat) := Int.zero_add _
          show gName 6 (V.int ((0 : Int) + (i : Nat))) _ _ _
          rw [ei]
          have iq : i < qs.length := by omega
          obtain ⟨v1, a1, d1⟩ := DpAll.get hx10 (show (ps.map Fm.data)[i]? = some ps[i].data by rw [List.getElem?_map, List.getElem?_eq_getElem hi]; rfl)
          obtain ⟨v2, a2, d2⟩ := DpAll.get hy9 (show (qs.map Fm.data)[i]? = some qs[i].data by rw [List.getElem?_map, List.getElem?_eq_getElem iq]; rfl)
          have m1 : ps[i] ∈ ps := List.getElem_mem _
          have m2 : qs[i] ∈ qs := List.getElem_mem _
          have dl : ps[i].dep < (Fm.mk h ps).dep := dep_part m1
          refine ⟨rfl, _, rfl, _, rfl, r10, _, _, _, rfl, rfl, SqL.of (s11 _ _ hr10), atI_nat a1, _, rfl, _, rfl, r9, _, _, _, rfl, rfl, SqL.of (s11 _ _ (s10 _ _ hr9)), atI_nat a2, _, rfl, v1, v2, p, ps[i], qs[i], updC c h.own us, m + 8, rfl, Dp.same s11 d1, Dp.same (s10.trans s11) d2, okf.part m1, okg.part m2, by omega, ?_, ⟨kvs', s11 _ _ (s10 _ _ (s9 _ _ h8)), by omega, c8⟩, by omega, fun H13 s13 => ⟨true, rfl, ?_⟩⟩
          · exact psm i _ _ (List.getElem?_eq_getElem hi) (List.getElem?_eq_getElem iq)
          · exact iteF ⟨s11.trans s13, s13 _ _ hL⟩
        · rintro H11 ⟨s11, hL⟩
          exact ⟨L, _, rfl, .inl (SqL.of hL), rfl, q _ (s0A.trans s11)⟩
end
/-! ### sizes -/
theorem flat_le {F : Fm → List Str} {b : Nat} : ∀ ps : List Fm, (∀ p, p ∈ ps → (F p).length ≤ b * p.cnt) → ((ps.map F).flatten).length ≤ b * sumN (ps.map Fm.cnt)
  | [], _ => Nat.zero_le _
  | p :: ps, h => by
    have a := h p (List.mem_cons_self ..)
    have c := flat_le ps fun q hq => h q (List.mem_cons_of_mem _ hq)
    rw [List.map_cons, List.flatten_cons, List.length_append]
    show _ ≤ b * (p.cnt + sumN (ps.map Fm.cnt))
    rw [Nat.mul_add]
    omega
theorem vars_len : ∀ f : Fm, f.Ok → f.vars.length ≤ 16 * f.cnt := Fm.ind fun h ps ih ok => by
  have a := flat_le (F := Fm.vars) (b := 16) ps fun p hp => ih p hp (ok.part hp)
  have o : h.own.length ≤ 8 := own_le ok.hd_
  have r : h.args.length ≤ 8 := args_len ok.hd_
  rw [Fm.vars_mk, Fm.cnt_mk, List.length_append, Nat.mul_add]
  have e : h.vars.length = h.own.length + h.args.length := List.length_append
  omega
theorem allB_len : ∀ f : Fm, f.Ok → f.allB.length ≤ 8 * f.cnt := Fm.ind fun h ps ih ok => by
  have a := flat_le (F := Fm.allB) (b := 8) ps fun p hp => ih p hp (ok.part hp)
  have o : h.own.length ≤ 8 := own_le ok.hd_
  rw [Fm.allB_mk, Fm.cnt_mk, List.length_append, Nat.mul_add]
  omega
theorem flat_lenV {ps qs : List Fm} (l : qs.length = ps.length) (h : ∀ (i : Nat) (a b : Fm), ps[i]? = some a → qs[i]? = some b → b.vars.length = a.vars.length) : (qs.map Fm.vars).flatten.length = (ps.map Fm.vars).flatten.length := by
  have e : qs.map (fun q => q.vars.length) = ps.map (fun q => q.vars.length) := map_two (F := fun q : Fm => q.vars.length) l h
  rw [List.length_flatten, List.length_flatten, List.map_map, List.map_map]
  exact congrArg List.sum e
theorem Sm.lenV {c : Str → Str} {f g : Fm} (s : Sm c f g) : g.vars.length = f.vars.length := by
  induction s with
  | @mk c h ps qs us r fr l p ih =>
    rw [Fm.vars_mk, Fm.vars_mk, List.length_append, List.length_append, flat_lenV l ih]
    have e1 : (h.re (h.args.map c) us).vars.length = (h.re (h.args.map c) us).own.length + (h.re (h.args.map c) us).args.length := List.length_append
    have e2 : h.vars.length = h.own.length + h.args.length := List.length_append
    rw [e1, e2, re_own r, re_args r, r.lu, r.la]
theorem Sm.fr {c : Str → Str} {f g : Fm} (s : Sm c f g) : Fr20 f → Fr20 g := by
  induction s with
  | @mk c h ps qs us r fr l p ih =>
    intro k
    obtain ⟨cov, c20, sub⟩ := k.here
    refine .mk ⟨cov.map c, by rw [List.length_map]; exact c20, fun y hy => ?_⟩ fun q hq => ?_
    · obtain ⟨x, hx, rfl⟩ := ((Sm.mk r fr l p).frees y).mp hy
      exact List.mem_map_of_mem (sub x hx)
    · obtain ⟨i, a, ha, hb, m⟩ := other l hq
      exact ih i a q ha hb (k.part m)
/-! ### how often a text is in a list -/
def eqs (k : Str) (v : Value) : Bool := match v with
  | .str n _ => n == k
  | _ => false
theorem eqs_all {A : Around} {s : Shared} {k : Str} {t : Tok} : ∀ {ns : List Str} {its : List Value}, Vals (ns.map V.str) its → (∀ y, y ∈ its → PySem.SeqAt.EqAt A s y (.str k t) (eqs k y)) ∧ its.countP (eqs k) = ns.count k
  | [], its, h => by
    cases h
    exact ⟨(fun y hy => nomatch hy), rfl⟩
  | n :: ns, its, h => by
    cases h with
    | cons r hr =>
      obtain ⟨u, rfl⟩ := r
      obtain ⟨i1, i2⟩ := eqs_all (A := A) (s := s) (t := t) hr
      refine ⟨fun y hy => ?_, ?_⟩
      · rcases List.mem_cons.mp hy with rfl | hy
        · exact PySem.SeqAt.EqAt.str_str n u k t
        · exact i1 y hy
      · rw [List.countP_cons, List.count_cons, i2]
        rfl
def rCntS (K : PySem.W.Frag) : V → List V → Hp → VK → Prop := fun x xs H Q => ∃ (p : Addr) (ns : List Str) (k : Str), x = .ref p ∧ xs = [.str k] ∧ SqL K H p (ns.map V.str) ∧ Q (.int (ns.count k : Nat)) H
theorem mt_scount {X : Cx} : MtR X "list.count" (rCntS X.K) := by
  intro pins s σ H x xs v us Q I rx rxs h
  obtain ⟨p, ns, k, rfl, rfl, hs, q⟩ := h
  cases rx
  obtain ⟨u, rfl, ru⟩ := rxs.one
  obtain ⟨t, rfl⟩ := ru
  obtain ⟨its, rv, ⟨⟨cls, dd, data, sl⟩, n, ho, hc, hdn, hd⟩, hlen⟩ := I.list hs
  simp only at hc hd
  subst hc hd
  have hi := eqs_all (A := X.A.in1) (s := s) (k := k) (t := t) rv
  refine call_meets PySem.F.slot_list_count ⟨_, ho, rfl⟩ PySem.F.entry_list_count (PySem.F.args_list_count_2 _ _)
    (PySem.SeqAt.list_countAt p its.toArray n dd sl (.str k t) (eqs k)) ⟨ho, fun y hy => (eqs_all rv).1 y (by simpa using hy), ?_⟩
  refine ⟨.int (ns.count k : Nat), H, I.tok _, ⟨s.toks, ?_⟩, q⟩
  show Value.int ((its.toArray.toList.countP (eqs k) : Nat) : Int) s.toks = Value.int ((ns.count k : Nat) : Int) s.toks
  rw [show its.toArray.toList.countP (eqs k) = ns.count k from hi.2]
theorem thin_mono {n : Nat} {d : PyData} (h : Thin n d) : Thin (n + 1) d := by
  induction h with
  | flat e => exact .flat e
  | tup l _ ih => exact .tup l ih
  | lst l _ ih => exact .lst l ih
theorem thin_le {n m : Nat} {d : PyData} (h : Thin n d) (l : n ≤ m) : Thin m d := by
  induction l with
  | refl => exact h
  | step _ ih => exact thin_mono ih
theorem dp_j {K : PySem.W.Frag} {H : Hp} {a b : Addr} {h : Hd} {xs : List V} {ps : List Fm} (j : h = .con ∨ h = .dis) (ha : SqT K H a [.str h.word, .ref b]) (hb : SqT K H b xs) (hx : DpAll K H xs (ps.map Fm.data)) : Dp K H (.ref a) (Fm.mk h ps).data := by
  rw [Fm.data_mk]
  refine Dp.hd ha ?_
  rcases j with rfl | rfl <;> exact .cons (.tup hb hx) .nil
theorem mt_scountK {X : Cx} {K : PySem.W.Frag} (hK : X.K = K) : MtR X "list.count" (rCntS K) := by
  subst hK
  exact mt_scount
theorem pe_K {X : Cx} {K : PySem.W.Frag} {e : Expr} {T : String} {r : V → List V → Hp → VK → Prop} {to : TE} {t : TA} (hK : X.K = K) (h : PE X e (tBM X.K T r to t)) : PE X e (tBM K T r to t) := by
  subst hK
  exact h
/-! ### the law -/
def spLaw (K : PySem.W.Frag) : Sp := fun vs H Q _ => ∃ (a : Addr) (ns : List Int), vs = [.ref a] ∧ SqL K H a (ns.map V.int) ∧ ns.length ≤ 63 ∧ ∀ H' : Hp, Q (.bl true) H'
theorem Gen.sz {pool : List Str} {ns : List NE} {Γ : ArE} {f : Fm} {n : Nat} (g : Gen pool ns Γ f n) (h : n ≤ 6) : f.dep ≤ 6 ∧ f.cnt ≤ 400 := by
  have c := g.cnt
  have d := g.dep
  have e : 3 ^ n ≤ 3 ^ 6 := Nat.pow_le_pow_right (by decide) h
  have e2 : (3 : Nat) ^ 6 = 729 := by decide
  omega
theorem Gen.wf {pool : List Str} {ns : List NE} {Γ : ArE} {f : Fm} {n : Nat} (g : Gen pool ns Γ f n) (h : n ≤ 6) : f.Wf := by
  have z := g.sz h
  exact ⟨g.ok, by omega, by omega, g.po, Γ, g.ty⟩
def poolsL : List (List Str) := [["x", "y"], ["x", "y", "z"], ["v1", "v2", "v3", "x"], ["x1", "e", "r", "a1"]]
theorem pools_ok : ∀ p, p ∈ poolsL → Pool p ∧ p.length ≤ 4 := by
  intro p hp
  have b : (poolsL.all fun p => p.all nmB && decide p.Nodup && decide (2 ≤ p.length) && decide (p.length ≤ 4)) = true := by decide +kernel
  have z := List.all_eq_true.mp b p hp
  simp only [Bool.and_eq_true, decide_eq_true_eq] at z
  exact ⟨⟨fun v hv => nm_of (List.all_eq_true.mp z.1.1.1 v hv), z.1.1.2, z.1.2, by omega⟩, z.2⟩
/-- f with what the law puts round it -/
def uF : Fm := .mk (.ex ["u"]) [.mk (.eq "u" "u") []]
def roundF (f : Fm) : Fm := .mk (.ex ["x", "y", "z"]) [.mk .con [f, uF]]
theorem nm1 (z : Str) (h : nmB z = true) : Nm z := nm_of h
theorem uF_ok : uF.Ok := .mk ⟨⟨by decide, by decide, fun v hv => by rw [List.mem_singleton.mp hv]; exact nm_of (by decide +kernel), by decide +kernel⟩, rfl⟩ fun p hp => by
  rw [List.mem_singleton.mp hp]
  exact Fm.Ok.mk ⟨nm_of (by decide +kernel), nm_of (by decide +kernel), rfl⟩ (fun q hq => nomatch hq)
theorem two_mem {a b p : Fm} (h : p ∈ [a, b]) : p = a ∨ p = b := by simpa using h
theorem round_ok {f : Fm} (k : f.Ok) : (roundF f).Ok := .mk ⟨⟨by decide, by decide, fun v hv => by
    have b : ((["x", "y", "z"] : List Str).all nmB) = true := by decide +kernel
    exact nm_of (List.all_eq_true.mp b v hv), by decide +kernel⟩, rfl⟩ fun p hp => by
  rw [List.mem_singleton.mp hp]
  refine .mk (show 2 ≤ 40 by decide) fun q hq => ?_
  rcases two_mem hq with rfl | rfl
  · exact k
  · exact uF_ok
theorem round_wf {f : Fm} (wf : f.Wf) (d : f.dep ≤ 6) (c : f.cnt ≤ 400) : (roundF f).Wf := by
  obtain ⟨Γ, t⟩ := wf.ty
  have ud : uF.dep = 2 := by unfold uF; rw [Fm.dep_mk]; show 1 + max (Fm.mk (.eq "u" "u") []).dep 0 = 2; rw [Fm.dep_mk]; rfl
  have uc : uF.cnt = 2 := by unfold uF; rw [Fm.cnt_mk]; show 1 + ((Fm.mk (.eq "u" "u") []).cnt + 0) = 2; rw [Fm.cnt_mk]; rfl
  refine ⟨round_ok wf.ok, ?_, ?_, ?_, Γ, ?_⟩
  · unfold roundF
    rw [Fm.dep_mk]
    show 1 + max (Fm.mk .con [f, uF]).dep 0 ≤ 40
    rw [Fm.dep_mk]
    show 1 + max (1 + max f.dep (max uF.dep 0)) 0 ≤ 40
    omega
  · unfold roundF
    rw [Fm.cnt_mk]
    show 1 + ((Fm.mk .con [f, uF]).cnt + 0) ≤ 2000
    rw [Fm.cnt_mk]
    show 1 + (1 + (f.cnt + (uF.cnt + 0)) + 0) ≤ 2000
    omega
  · refine .mk (fun n us as e => by cases e) fun p hp => ?_
    rw [List.mem_singleton.mp hp]
    refine .mk (fun n us as e => by cases e) fun q hq => ?_
    rcases two_mem hq with rfl | rfl
    · exact wf.pos
    · exact .mk (fun n us as e => by cases e) fun r hr => by
        rw [List.mem_singleton.mp hr]
        exact Fm.PosOk.mk (fun n us as e => by cases e) (fun s hs => nomatch hs)
  · refine .other (fun z => by cases z) fun p hp => ?_
    rw [List.mem_singleton.mp hp]
    refine .other (fun z => by cases z) fun q hq => ?_
    rcases two_mem hq with rfl | rfl
    · exact t
    · exact .other (fun z => by cases z) fun r hr => by
        rw [List.mem_singleton.mp hr]
        exact Fm.Typed.other (fun z => by cases z) (fun s hs => nomatch hs)
theorem cnt_round {f : Fm} (c : f.cnt ≤ 400) : (roundF f).cnt ≤ 500 := by
  have uc : uF.cnt = 2 := by unfold uF; rw [Fm.cnt_mk]; show 1 + ((Fm.mk (.eq "u" "u") []).cnt + 0) = 2; rw [Fm.cnt_mk]; rfl
  unfold roundF
  rw [Fm.cnt_mk]
  show 1 + ((Fm.mk .con [f, uF]).cnt + 0) ≤ 500
  rw [Fm.cnt_mk]
  show 1 + (1 + (f.cnt + (uF.cnt + 0)) + 0) ≤ 500
  omega
theorem Fr20.mk' {h : Hd} {ps : List Fm} {cov : List Str} (l : cov.length ≤ 20) (a : ∀ x, x ∈ (Fm.mk h ps).frees → x ∈ cov) (b : ∀ p, p ∈ ps → Fr20 p) : Fr20 (.mk h ps) := .mk ⟨cov, l, a⟩ b
theorem uF_fr : Fr20 uF := by
  have o : Occ (["u"] : List Str) uF := .mk' (fun x hx => hx) (fun x hx => nomatch hx) fun p hp => by
    rw [List.mem_singleton.mp hp]
    exact .mk' (fun x hx => by have : x = "u" ∨ x = "u" := by simpa [Hd.vars, Hd.own, Hd.args] using hx
                               rcases this with rfl | rfl <;> exact List.mem_singleton.mpr rfl) (fun x hx => nomatch hx) (fun q hq => nomatch hq)
  exact Occ.fr _ o (by decide)
theorem round_fr {f : Fm} {pool : List Str} (o : Occ pool f) (l : pool.length ≤ 4) : Fr20 (roundF f) := by
  have sub : ∀ x, x ∈ (Fm.mk .con [f, uF]).frees → x ∈ pool ++ (["u"] : List Str) := fun x hx => by
    rcases Fm.frees_mem.mp hx with ⟨g, hg, hx1, _⟩ | ha
    · rcases two_mem hg with e | e
      · rw [e] at hx1
        exact List.mem_append_left _ (o.vs x (frees_vars _ x hx1))
      · rw [e] at hx1
        rcases Fm.frees_mem.mp hx1 with ⟨g2, hg2, hx2, ho⟩ | ha
        · rw [List.mem_singleton.mp hg2] at hx2
          rcases Fm.frees_mem.mp hx2 with ⟨g3, hg3, _⟩ | ha
          · cases hg3
          · have : x = "u" ∨ x = "u" := by simpa [Hd.args] using ha
            rcases this with rfl | rfl <;> exact List.mem_append_right _ (List.mem_singleton.mpr rfl)
        · cases ha
    · cases ha
  refine .mk' (cov := pool ++ (["u"] : List Str)) (by rw [List.length_append]; show _ + 1 ≤ 20; omega) (fun x hx => ?_) fun p hp => ?_
  · rcases Fm.frees_mem.mp hx with ⟨g, hg, hx, _⟩ | ha
    · rw [List.mem_singleton.mp hg] at hx
      exact sub x hx
    · cases ha
  · rw [List.mem_singleton.mp hp]
    refine .mk' (cov := pool ++ (["u"] : List Str)) (by rw [List.length_append]; show _ + 1 ≤ 20; omega) sub fun q hq => ?_
    rcases two_mem hq with rfl | rfl
    · exact Occ.fr _ o (by omega)
    · exact uF_fr
theorem round_allB (f : Fm) : 4 ≤ (roundF f).allB.length := by
  unfold roundF
  rw [Fm.allB_mk, List.length_append]
  show 4 ≤ 3 + _
  have e : (([Fm.mk .con [f, uF]].map Fm.allB).flatten).length = (Fm.mk .con [f, uF]).allB.length := by simp
  rw [e, Fm.allB_mk, List.length_append]
  show 4 ≤ 3 + (0 + _)
  have e2 : (([f, uF].map Fm.allB).flatten).length = f.allB.length + uF.allB.length := by simp
  rw [e2]
  have e3 : uF.allB.length = 1 := by
    unfold uF
    rw [Fm.allB_mk, List.length_append]
    have e4 : ([Fm.mk (.eq "u" "u") []].map Fm.allB).flatten = (Fm.mk (.eq "u" "u") []).allB := by simp
    rw [e4, Fm.allB_mk]
    rfl
  omega
theorem sl_take4 {xs : List V} (l : 4 ≤ xs.length) : cutV xs none (some 4) = xs.take 4 := by
  unfold cutV
  rw [show (some (4 : Int)) = some ((4 : Nat) : Int) from rfl, HT.sIx_nat, HT.sIx_none, Nat.min_eq_left l]
  rfl
theorem thin_strs {ss : List Str} (l : ss.length ≤ 1000) : Thin 1 (.list (ss.map PyData.str)) := .lst (by rw [List.length_map]; exact l) fun t ht => by
  obtain ⟨z, _, rfl⟩ := List.mem_map.mp ht
  exact .flat (.inl ⟨z, rfl⟩)
section
variable {P : Program} {w : World} {K : PySem.W.Frag} {mg : Str → Option Value} {base : Heap}
theorem sc_law : FnScope ["script", "draws", "kinds", "pool", "turn", "f", "theirs", "g", "bound", "free_v", "x"] ["script"] (defScope (top 81)) := ⟨rfl, rfl, rfl, by decide +kernel, rfl, by decide +kernel, by decide +kernel⟩
theorem ok_law {f : Addr} {fd : FuncData} (F : FnP K "law" (top 81) f fd) (T : Txt mg) (C1 : Has P w K mg base 2 "_law_numbers" ["script"] (spNumbers K)) (C2 : Has P w K mg base 2 "_law_draw" ["draws"] spDraw)
    (C4 : Has P w K mg base 3 "_law_names" ["draws"] (spNamesL K)) (C5 : Has P w K mg base (4 + 2 * 6) "_law_formula" ["draws", "deep", "pool", "names", "kinds"] (spForm K 6)) (A1 : Has P w K mg base 49 "apart" ["formula"] (spApart K))
    (L1 : Has P w K mg base (2 + 40) "_law_all_bound" ["f"] (spAllB K 40)) (L2 : Has P w K mg base (2 + 40) "_law_same" ["f", "g", "pairs"] (spSame K 40)) (L3 : Has P w K mg base 1 "_law_is_name" ["word"] (spLName K)) (L4 : Has P w K mg base (2 + 40) "_law_free" ["f"] (spFrees K 40))
    (C10 : Has P w K mg base 5 "_law_equal" ["actual", "due"] (spEqD K 2)) : FnOk P w K mg base CX0 50 f fd ["script"] (spLaw K) := by
  obtain ⟨f1, fd1, G_law_numbers, g_law_numbers, k_law_numbers, b_law_numbers⟩ := C1
  obtain ⟨f2, fd2, G_law_draw, g_law_draw, k_law_draw, b_law_draw⟩ := C2
  obtain ⟨f4, fd4, G_law_names, g_law_names, k_law_names, b_law_names⟩ := C4
  obtain ⟨f5, fd5, G_law_formula, g_law_formula, k_law_formula, b_law_formula⟩ := C5
  obtain ⟨f6, fd6, G_apart, g_apart, k_apart, b_apart⟩ := A1
  obtain ⟨a1, b1, G_law_all_bound, g_law_all_bound, k_law_all_bound, b_law_all_bound⟩ := L1
  obtain ⟨a2, b2, G_law_same, g_law_same, k_law_same, b_law_same⟩ := L2
  obtain ⟨a3, b3, G_law_is_name, g_law_is_name, k_law_is_name, b_law_is_name⟩ := L3
  obtain ⟨a4, b4, G_law_free, g_law_free, k_law_free, b_law_free⟩ := L4
  obtain ⟨f10, fd10, G_law_equal, g_law_equal, k_law_equal, b_law_equal⟩ := C10
  refine F.ok sc_law (fun vs H Q E h => ?_) (fun cdv A outer s H vs Q E hr h => ?_)
  · obtain ⟨a, ns, rfl, _⟩ := h; rfl
  · obtain ⟨a, ns, rfl, hS, hlen, q⟩ := h
    have R_law_numbers : Room 2 _ := hr.mono (by decide)
    have R_law_draw : Room 2 _ := hr.mono (by decide)
    have R_law_names : Room 3 _ := hr.mono (by decide)
    have R_law_formula : Room (4 + 2 * 6) _ := hr.mono (by decide)
    have R_apart : Room 49 _ := hr
    have R_law_all_bound : Room (2 + 40) _ := hr.mono (by decide)
    have R_law_same : Room (2 + 40) _ := hr.mono (by decide)
    have R_law_is_name : Room 1 _ := hr.mono (by decide)
    have R_law_free : Room (2 + 40) _ := hr.mono (by decide)
    have R_law_equal : Room 5 _ := hr.mono (by decide)
    refine ⟨_, PSs.nox (pss_cons (ps_set (i := 1) sc_law.nd rfl (Or.inl rfl) (pe_lst (pa_cons (pe_call G_law_numbers R_law_numbers (by rfl) g_law_numbers k_law_numbers b_law_numbers .nil pass0 (pa_cons (pv 0) pa_nil)) (pa_cons pe_int pa_nil)))) (pss_cons (ps_set (i := 2) sc_law.nd rfl (Or.inl rfl) (pe_lst (pa_cons pe_str (pa_cons pe_str (pa_cons pe_str (pa_cons pe_str (pa_cons pe_str (pa_cons pe_str pa_nil)))))))) (pss_cons (ps_set (i := 3) sc_law.nd rfl (Or.inl rfl) (pe_ix ix_list (pe_lst (pa_cons (pe_lst (pa_cons pe_str (pa_cons pe_str pa_nil))) (pa_cons (pe_lst (pa_cons pe_str (pa_cons pe_str (pa_cons pe_str pa_nil)))) (pa_cons (pe_lst (pa_cons pe_str (pa_cons pe_str (pa_cons pe_str (pa_cons pe_str pa_nil))))) (pa_cons (pe_lst (pa_cons pe_str (pa_cons pe_str (pa_cons pe_str (pa_cons pe_str pa_nil))))) pa_nil))))) (pe_op op_mod (pe_call G_law_draw R_law_draw (by rfl) g_law_draw k_law_draw b_law_draw .nil pass0 (pa_cons (pv 1) pa_nil)) pe_int) (fun _ _ => rfl))) (pss_cons (ps_for PassesOwn.never rfl (pi_range1 (by rfl) T.n_range (pa_cons pe_int pa_nil)) (pg_name (i := 4) sc_law.nd rfl (Or.inl rfl)) (pss_cons (ps_set (i := 5) sc_law.nd rfl (Or.inl rfl) (pe_call G_law_formula R_law_formula (by rfl) g_law_formula k_law_formula b_law_formula .nil pass0 (pa_cons (pv 1) (pa_cons (pe_op op_add pe_int (pe_op op_mod (pe_call G_law_draw R_law_draw (by rfl) g_law_draw k_law_draw b_law_draw .nil pass0 (pa_cons (pv 1) pa_nil)) pe_int)) (pa_cons (pv 3) (pa_cons (pe_call G_law_names R_law_names (by rfl) g_law_names k_law_names b_law_names .nil pass0 (pa_cons (pv 1) pa_nil)) (pa_cons (pv 2) pa_nil))))))) (pss_cons (ps_if (pt_cmpR op_eq (pv 4) pe_int (nomark _)) (pss_cons (ps_set (i := 6) sc_law.nd rfl (Or.inl rfl) (pe_call G_law_all_bound R_law_all_bound (by rfl) g_law_all_bound k_law_all_bound b_law_all_bound .nil pass0 (pa_cons (pe_call G_apart R_apart (by rfl) g_apart k_apart b_apart .nil pass0 (pa_cons (pe_tup (pa_cons pe_str (pa_cons (pe_tup (pa_cons pe_str (pa_cons pe_str (pa_cons pe_str pa_nil)))) (pa_cons (pe_tup (pa_cons pe_str (pa_cons (pe_tup (pa_cons (pv 5) (pa_cons (pe_tup (pa_cons pe_str (pa_cons (pe_tup (pa_cons pe_str pa_nil)) (pa_cons (pe_tup (pa_cons pe_str (pa_cons pe_str (pa_cons pe_str pa_nil)))) pa_nil)))) pa_nil))) pa_nil))) pa_nil)))) pa_nil)) pa_nil))) (pss_one (ps_set (i := 5) sc_law.nd rfl (Or.inl rfl) (pe_call G_law_formula R_law_formula (by rfl) g_law_formula k_law_formula b_law_formula .nil pass0 (pa_cons (pv 1) (pa_cons (pe_op op_add pe_int (pe_op op_mod (pe_call G_law_draw R_law_draw (by rfl) g_law_draw k_law_draw b_law_draw .nil pass0 (pa_cons (pv 1) pa_nil)) pe_int)) (pa_cons (pe_slice sl_list (pv 6) po_none (po_some pe_int)) (pa_cons (pe_call G_law_names R_law_names (by rfl) g_law_names k_law_names b_law_names .nil pass0 (pa_cons (pv 1) pa_nil)) (pa_cons (pv 2) pa_nil))))))))) pss_nil) (pss_cons (ps_set (i := 7) sc_law.nd rfl (Or.inl rfl) (pe_call G_apart R_apart (by rfl) g_apart k_apart b_apart .nil pass0 (pa_cons (pv 5) pa_nil))) (pss_cons (ps_if (pt_not (pt_val (pe_call G_law_same R_law_same (by rfl) g_law_same k_law_same b_law_same .nil pass0 (pa_cons (pv 5) (pa_cons (pv 7) (pa_cons pe_dnewK pa_nil)))))) (pss_one (ps_ret pe_bl)) pss_nil) (pss_cons (ps_set (i := 8) sc_law.nd rfl (Or.inr rfl) (pe_call G_law_all_bound R_law_all_bound (by rfl) g_law_all_bound k_law_all_bound b_law_all_bound .nil pass0 (pa_cons (pv 7) pa_nil))) (pss_cons (ps_if (pt_cmpR op_gt (pe_callB call_len_seq (by rfl) T.n_len PySem.boot_len (pa_cons (pe_lc (own := [("x", 10)]) rfl sc_law.nd (pi_list (pv 8)) (blkOk_by (N := ["script", "draws", "kinds", "pool", "turn", "f", "theirs", "g", "bound", "free_v", "x"]) (sc := defScope (top 81)) (by decide +kernel)) (fun _ _ _ _ _ => (pg_name (i := 10) sc_law.nd rfl (Or.inl rfl))) (fun _ _ _ _ _ => (pts_one (PW.pt (pw_or (pt_not (pt_val (pe_call G_law_is_name R_law_is_name (by rfl) g_law_is_name k_law_is_name b_law_is_name .nil pass0 (pa_cons (pv 10) pa_nil)))) (pw_or1 (pt_cmpR op_gt (pe_K (K := K) rfl (pe_bm PySem.F.plainAttrs_list PySem.F.slot_list_count PySem.F.type_list_count (mt_scountK (K := K) rfl) (pv 8) (pa_cons (pv 10) pa_nil))) pe_int (nomark _))))))) (fun _ _ _ _ _ => (pv 10))) pa_nil)) pe_int (nomark _)) (pss_one (ps_ret pe_bl)) pss_nil) (pss_cons (ps_set (i := 9) sc_law.nd rfl (Or.inr rfl) (pe_call G_law_free R_law_free (by rfl) g_law_free k_law_free b_law_free .nil pass0 (pa_cons (pv 7) pa_nil))) (pss_cons (ps_if (PW.pt (pw_or (pt_cmpR op_gt (pe_callB call_len_seq (by rfl) T.n_len PySem.boot_len (pa_cons (pe_lc (own := [("x", 10)]) rfl sc_law.nd (pi_list (pv 8)) (blkOk_by (N := ["script", "draws", "kinds", "pool", "turn", "f", "theirs", "g", "bound", "free_v", "x"]) (sc := defScope (top 81)) (by decide +kernel)) (fun _ _ _ _ _ => (pg_name (i := 10) sc_law.nd rfl (Or.inl rfl))) (fun _ _ _ _ _ => (pts_one (pt_cmpR (op_in_seqK (K := K) rfl) (pv 10) (pv 9) (by rfl)))) (fun _ _ _ _ _ => (pv 10))) pa_nil)) pe_int (nomark _)) (pw_or1 (pt_not (pt_val (pe_call G_law_equal R_law_equal (by rfl) g_law_equal k_law_equal b_law_equal .nil pass0 (pa_cons (pv 9) (pa_cons (pe_call G_law_free R_law_free (by rfl) g_law_free k_law_free b_law_free .nil pass0 (pa_cons (pv 5) pa_nil)) pa_nil)))))))) (pss_one (ps_ret pe_bl)) pss_nil) (pss_one (ps_if (pt_not (pt_val (pe_call G_law_same R_law_same (by rfl) g_law_same k_law_same b_law_same .nil pass0 (pa_cons (pv 7) (pa_cons (pe_call G_apart R_apart (by rfl) g_apart k_apart b_apart .nil pass0 (pa_cons (pv 7) pa_nil)) (pa_cons pe_dnewK pa_nil)))))) (pss_one (ps_ret pe_bl)) pss_nil))))))))))) (pss_one (ps_ret pe_bl)))))), ?_⟩
    refine ⟨_, rfl, a, ns, rfl, hS, hlen, fun H1 p ms s1 np hp sm => ⟨(by show 2 ≤ sizeLine; decide), fun d nd => ?_⟩⟩
    have dr0 : DrA (upd H1 d (.lst [.ref p, .int 0])) d p := ⟨0, ms, upd_same, by rw [upd_ne (ne_of_none hp nd)]; exact hp, sm⟩
    revert dr0
    generalize upd H1 d (.lst [.ref p, .int 0]) = H2
    intro dr0
    refine ⟨(by show 6 ≤ sizeLine; decide), fun c nc => ?_⟩
    have s3 := same_upd (o := .lst [.str "some", .str "all", .str "lfp", .str "pfp", .str "tc", .str "guess"]) nc
    have hc3 : (upd H2 c (.lst [.str "some", .str "all", .str "lfp", .str "pfp", .str "tc", .str "guess"])) c = some (.lst (kindsL.map V.str)) := upd_same
    have dr3 := dr0.same s3
    have ncd := (dr0.ne nc).1
    clear s3
    revert hc3 dr3
    generalize upd H2 c (.lst [.str "some", .str "all", .str "lfp", .str "pfp", .str "tc", .str "guess"]) = H3
    intro hc3 dr3
    -- the pool
    refine ⟨(by show 2 ≤ sizeLine; decide), fun q1 m1 => ⟨(by show 3 ≤ sizeLine; decide), fun q2 m2 => ⟨(by show 4 ≤ sizeLine; decide), fun q3 m3 => ⟨(by show 4 ≤ sizeLine; decide), fun q4 m4 => ⟨(by show 4 ≤ sizeLine; decide), fun q5 m5 => ?_⟩⟩⟩⟩⟩
    have s1' := same_upd (o := .lst [.str "x", .str "y"]) m1
    have s2' := same_upd (o := .lst [.str "x", .str "y", .str "z"]) m2
    have s3' := same_upd (o := .lst [.str "v1", .str "v2", .str "v3", .str "x"]) m3
    have s4' := same_upd (o := .lst [.str "x1", .str "e", .str "r", .str "a1"]) m4
    have s5' := same_upd (o := .lst [.ref q1, .ref q2, .ref q3, .ref q4]) m5
    have s15 := (((s1'.trans s2').trans s3').trans s4').trans s5'
    have c1 : (upd (upd (upd (upd (upd H3 q1 (.lst [.str "x", .str "y"])) q2 (.lst [.str "x", .str "y", .str "z"])) q3 (.lst [.str "v1", .str "v2", .str "v3", .str "x"])) q4 (.lst [.str "x1", .str "e", .str "r", .str "a1"])) q5 (.lst [.ref q1, .ref q2, .ref q3, .ref q4])) q1 = some (.lst ((["x", "y"] : List Str).map V.str)) := s5' _ _ (s4' _ _ (s3' _ _ (s2' _ _ (upd_same))))
    have c2 : (upd (upd (upd (upd (upd H3 q1 (.lst [.str "x", .str "y"])) q2 (.lst [.str "x", .str "y", .str "z"])) q3 (.lst [.str "v1", .str "v2", .str "v3", .str "x"])) q4 (.lst [.str "x1", .str "e", .str "r", .str "a1"])) q5 (.lst [.ref q1, .ref q2, .ref q3, .ref q4])) q2 = some (.lst ((["x", "y", "z"] : List Str).map V.str)) := s5' _ _ (s4' _ _ (s3' _ _ (upd_same)))
    have c3 : (upd (upd (upd (upd (upd H3 q1 (.lst [.str "x", .str "y"])) q2 (.lst [.str "x", .str "y", .str "z"])) q3 (.lst [.str "v1", .str "v2", .str "v3", .str "x"])) q4 (.lst [.str "x1", .str "e", .str "r", .str "a1"])) q5 (.lst [.ref q1, .ref q2, .ref q3, .ref q4])) q3 = some (.lst ((["v1", "v2", "v3", "x"] : List Str).map V.str)) := s5' _ _ (s4' _ _ (upd_same))
    have c4 : (upd (upd (upd (upd (upd H3 q1 (.lst [.str "x", .str "y"])) q2 (.lst [.str "x", .str "y", .str "z"])) q3 (.lst [.str "v1", .str "v2", .str "v3", .str "x"])) q4 (.lst [.str "x1", .str "e", .str "r", .str "a1"])) q5 (.lst [.ref q1, .ref q2, .ref q3, .ref q4])) q4 = some (.lst ((["x1", "e", "r", "a1"] : List Str).map V.str)) := s5' _ _ (upd_same)
    have c5 : (upd (upd (upd (upd (upd H3 q1 (.lst [.str "x", .str "y"])) q2 (.lst [.str "x", .str "y", .str "z"])) q3 (.lst [.str "v1", .str "v2", .str "v3", .str "x"])) q4 (.lst [.str "x1", .str "e", .str "r", .str "a1"])) q5 (.lst [.ref q1, .ref q2, .ref q3, .ref q4])) q5 = some (.lst [.ref q1, .ref q2, .ref q3, .ref q4]) := upd_same
    have hc5 := s15 _ _ hc3
    have dr5 := dr3.same s15
    have nd1 := (dr3.ne m1).1
    have nd2 := ((dr3.same s1').ne m2).1
    have nd3 := (((dr3.same s1').same s2').ne m3).1
    have nd4 := ((((dr3.same s1').same s2').same s3').ne m4).1
    have nd5 := (((((dr3.same s1').same s2').same s3').same s4').ne m5).1
    clear s1' s2' s3' s4' s5' s15 hc3 dr3
    revert c1 c2 c3 c4 c5 hc5 dr5
    generalize (upd (upd (upd (upd (upd H3 q1 (.lst [.str "x", .str "y"])) q2 (.lst [.str "x", .str "y", .str "z"])) q3 (.lst [.str "v1", .str "v2", .str "v3", .str "x"])) q4 (.lst [.str "x1", .str "e", .str "r", .str "a1"])) q5 (.lst [.ref q1, .ref q2, .ref q3, .ref q4])) = H5
    intro c1 c2 c3 c4 c5 hc5 dr5
    refine ⟨_, rfl, d, p, rfl, dr5, fun z6 H6 _ _ dr6 k6 => ?_⟩
    obtain ⟨v6, hv6, hat6⟩ := atI_mod (xs := [.ref q1, .ref q2, .ref q3, .ref q4]) z6 (by show 0 < 4; decide)
    refine ⟨_, _, rfl, rfl, (by show (0 : Int) < 4; decide), q5, _, _, _, rfl, rfl, SqL.of (k6 _ _ c5 nd5), hat6, ?_⟩
    obtain ⟨pool, pv, hpv, nvd, hpool, rfl⟩ : ∃ (pool : List Str) (pv : Addr), H6 pv = some (.lst (pool.map V.str)) ∧ pv ≠ d ∧ pool ∈ poolsL ∧ v6 = .ref pv := by
      simp only [List.mem_cons, List.not_mem_nil, or_false] at hv6
      rcases hv6 with rfl | rfl | rfl | rfl
      · exact ⟨_, q1, k6 _ _ c1 nd1, nd1, List.mem_cons_self .., rfl⟩
      · exact ⟨_, q2, k6 _ _ c2 nd2, nd2, List.mem_cons_of_mem _ (List.mem_cons_self ..), rfl⟩
      · exact ⟨_, q3, k6 _ _ c3 nd3, nd3, List.mem_cons_of_mem _ (List.mem_cons_of_mem _ (List.mem_cons_self ..)), rfl⟩
      · exact ⟨_, q4, k6 _ _ c4 nd4, nd4, List.mem_cons_of_mem _ (List.mem_cons_of_mem _ (List.mem_cons_of_mem _ (List.mem_cons_self ..))), rfl⟩
    obtain ⟨pok, p4⟩ := pools_ok pool hpool
    have hc6 := k6 _ _ hc5 ncd
    clear c1 c2 c3 c4 c5 hc5 dr5 k6 hat6 hv6
    refine ⟨2, rfl, by decide, by decide, for_range (n := 2) (fun i σ H => ∃ y4 y5 y6 y7 y8 y9 : Option V, σ = [some (.ref a), some (.ref d), some (.ref c), some (.ref pv), y4, y5, y6, y7, y8, y9, none] ∧ DrA H d p ∧ Kp d H6 H) ⟨none, none, none, none, none, none, rfl, dr6, .refl _ _⟩ ?_ ?_⟩
    · rintro i σ H7 hi ⟨y4, y5, y6, y7, y8, y9, rfl, dr7, k7⟩
      have ei : (0 : Int) + (i : Nat) = (i : Nat) := Int.zero_add _
      rw [ei]
      refine ⟨_, rfl, _, rfl, d, p, rfl, dr7, fun z8 H8 _ _ dr8 k8 => ?_⟩
      refine ⟨_, _, rfl, rfl, (by show (0 : Int) < 5; decide), _, _, rfl, rfl, ?_⟩
      obtain ⟨nA, hnA, n2A, n6A⟩ : ∃ n : Nat, 2 + z8 % 5 = (n : Int) ∧ 2 ≤ n ∧ n ≤ 6 := ⟨(2 + z8 % 5).toNat, by omega, by omega, by omega⟩
      refine ⟨_, rfl, _, rfl, d, p, rfl, dr8, fun H9 rn nl Γ dr9 k9 dn nok nlen => ?_⟩
      have k69 : Kp d H6 H9 := (k7.trans k8).trans k9
      have dpl : Dp K H9 (.ref pv) (.list (pool.map PyData.str)) := .lst (SqL.of (k69 _ _ hpv nvd)) (DpAll.of_strs _)
      have dk9 : Dk K H9 (.ref c) := ⟨kindsL, by decide, fun x hx => hx, .lst (SqL.of (k69 _ _ hc6 ncd)) (DpAll.of_strs _)⟩
      refine ⟨_, rfl, d, p, _, .ref pv, rn, .ref c, pool, nl, Γ, nA, rfl, hnA, by omega, ⟨dr9, dpl, dn, dk9, nok, pok, by omega⟩, fun H10 fv f dr10 k10 df gf => ?_⟩
      have k610 := k69.trans k10
      have wf := gf.wf n6A
      have fz := gf.sz n6A
      refine ⟨_, rfl, rfl, _, rfl, ite2 (fun _ => ?_) (fun _ => ?_)⟩
      · refine ⟨(by show 3 ≤ sizeLine; decide), fun t1 m1 => ⟨_, rfl, (by show 1 ≤ sizeLine; decide), fun t2 m2 => ⟨(by show 3 ≤ sizeLine; decide), fun t3 m3 => ⟨(by show 3 ≤ sizeLine; decide), fun t4 m4 => ⟨(by show 2 ≤ sizeLine; decide), fun t5 m5 => ⟨(by show 2 ≤ sizeLine; decide), fun t6 m6 => ⟨(by show 3 ≤ sizeLine; decide), fun t7 m7 => ?_⟩⟩⟩⟩⟩⟩⟩
        have s1 := same_upd (o := .tup [.str "x", .str "y", .str "z"]) m1
        have s2 := same_upd (o := .tup [.str "u"]) m2
        have s3 := same_upd (o := .tup [.str "eq", .str "u", .str "u"]) m3
        have s4 := same_upd (o := .tup [.str "some", .ref t2, .ref t3]) m4
        have s5 := same_upd (o := .tup [fv, .ref t4]) m5
        have s6 := same_upd (o := .tup [.str "and", .ref t5]) m6
        have s7 := same_upd (o := .tup [.str "some", .ref t1, .ref t6]) m7
        have s57 := (s5.trans s6).trans s7
        have s47 := s4.trans s57
        have s37 := s3.trans s47
        have s17 := (s1.trans s2).trans s37
        have dU : Dp K (upd (upd (upd (upd (upd (upd (upd H10 t1 (.tup [.str "x", .str "y", .str "z"])) t2 (.tup [.str "u"])) t3 (.tup [.str "eq", .str "u", .str "u"])) t4 (.tup [.str "some", .ref t2, .ref t3])) t5 (.tup [fv, .ref t4])) t6 (.tup [.str "and", .ref t5])) t7 (.tup [.str "some", .ref t1, .ref t6])) (.ref t4) uF.data := by
          unfold uF
          rw [Fm.data_mk (.ex ["u"])]
          exact Dp.hd (Same.sqt s57 (SqT.of upd_same)) (.cons (tS_of (as := ["u"]) (Same.sqt s37 (SqT.of upd_same))) (.cons (by
            show Dp K _ (.ref t3) (Fm.mk (.eq "u" "u") []).data
            rw [Fm.data_mk]
            exact Dp.hd (Same.sqt s47 (SqT.of upd_same)) (.cons (.str _) (.cons (.str _) .nil))) .nil))
        have dR : Dp K (upd (upd (upd (upd (upd (upd (upd H10 t1 (.tup [.str "x", .str "y", .str "z"])) t2 (.tup [.str "u"])) t3 (.tup [.str "eq", .str "u", .str "u"])) t4 (.tup [.str "some", .ref t2, .ref t3])) t5 (.tup [fv, .ref t4])) t6 (.tup [.str "and", .ref t5])) t7 (.tup [.str "some", .ref t1, .ref t6])) (.ref t7) (roundF f).data := by
          unfold roundF
          rw [Fm.data_mk (.ex ["x", "y", "z"])]
          refine Dp.hd (SqT.of upd_same) (.cons (tS_of (as := ["x", "y", "z"]) (Same.sqt (s2.trans s37) (SqT.of upd_same))) (.cons ?_ .nil))
          exact dp_j (h := .con) (.inl rfl) (Same.sqt s7 (SqT.of upd_same)) (Same.sqt (s6.trans s7) (SqT.of upd_same)) (.cons (Dp.same s17 df) (.cons dU .nil))
        have drR := dr10.same s17
        have kR := k610.trans (.of s17)
        clear s1 s2 s3 s4 s5 s6 s7 s57 s47 s37 dU
        revert dR drR kR s17
        generalize upd (upd (upd (upd (upd (upd (upd H10 t1 (.tup [.str "x", .str "y", .str "z"])) t2 (.tup [.str "u"])) t3 (.tup [.str "eq", .str "u", .str "u"])) t4 (.tup [.str "some", .ref t2, .ref t3])) t5 (.tup [fv, .ref t4])) t6 (.tup [.str "and", .ref t5])) t7 (.tup [.str "some", .ref t1, .ref t6]) = HR
        intro s17 dR drR kR
        have rc := cnt_round fz.2
        have rok := round_ok wf.ok
        have rv := vars_len _ rok
        have rb := allB_len _ rok
        refine ⟨_, roundF f, rfl, dR, round_wf wf fz.1 fz.2, round_fr gf.oc p4, by omega, by omega, fun H11 r11 g sA dg sm nmB ndB _ => ?_⟩
        have lB := sm.lenB
        have gw := sm.wf (round_wf wf fz.1 fz.2)
        refine ⟨r11, g, rfl, dg, gw.ok, gw.dep, by omega, fun H12 th sB nth hth => ?_⟩
        have r4 := round_allB f
        have dr12 := drR.same (sA.trans sB)
        have k12 := kR.trans (.of (sA.trans sB))
        have thd : th ≠ d := ((drR.same sA).ne nth).1
        refine ⟨_, rfl, _, rfl, d, p, rfl, dr12, fun z8 H13 _ _ dr13 k13 => ?_⟩
        refine ⟨_, _, rfl, rfl, (by show (0 : Int) < 4; decide), _, _, rfl, rfl, ?_⟩
        obtain ⟨nB, hnB, n2B, n6B⟩ : ∃ n : Nat, 2 + z8 % 4 = (n : Int) ∧ 2 ≤ n ∧ n ≤ 6 := ⟨(2 + z8 % 4).toNat, by omega, by omega, by omega⟩
        refine ⟨_, rfl, 4, rfl, th, _, rfl, SqL.of (k13 _ _ hth thd), fun sp nsp => ?_⟩
        have ec : cutV (g.allB.map V.str) none (some 4) = (g.allB.take 4).map V.str := by rw [sl_take4 (by rw [List.length_map]; omega), List.map_take]
        rw [ec]
        have ss := same_upd (o := .lst ((g.allB.take 4).map V.str)) nsp
        have dr14 := dr13.same ss
        have k14 := (k12.trans k13).trans (.of ss)
        have hsp : (upd H13 sp (.lst ((g.allB.take 4).map V.str))) sp = some (.lst ((g.allB.take 4).map V.str)) := upd_same
        have nspd := (dr13.ne nsp).1
        revert hsp dr14 k14 ss
        generalize upd H13 sp (.lst ((g.allB.take 4).map V.str)) = H14
        intro ss dr14 k14 hsp
        have tl : (g.allB.take 4).length = 4 := by rw [List.length_take]; omega
        have pok2 : Pool (g.allB.take 4) := ⟨fun v hv => nmB v (List.mem_of_mem_take hv), ndB.sublist (List.take_sublist _ _), by omega, by omega⟩
        refine ⟨_, rfl, d, p, rfl, dr14, fun H15 rn2 nl2 Γ2 dr15 k15 dn2 nok2 nlen2 => ?_⟩
        have k615 := k14.trans k15
        have dpl2 : Dp K H15 (.ref sp) (.list ((g.allB.take 4).map PyData.str)) := .lst (SqL.of (k15 _ _ hsp nspd)) (DpAll.of_strs _)
        have dk15 : Dk K H15 (.ref c) := ⟨kindsL, by decide, fun x hx => hx, .lst (SqL.of (k615 _ _ hc6 ncd)) (DpAll.of_strs _)⟩
        refine ⟨_, rfl, d, p, _, .ref sp, rn2, .ref c, g.allB.take 4, nl2, Γ2, nB, rfl, hnB, by omega, ⟨dr15, dpl2, dn2, dk15, nok2, pok2, by omega⟩, fun H16 fv2 f2 dr16 k16 df2 gf2 => ?_⟩
        have k616 := k615.trans k16
        have wf20 := gf2.wf n6B
        have c20 := (gf2.sz n6B).2
        have fr20 : Fr20 f2 := Occ.fr _ gf2.oc (by omega)
        have dr20 := dr16
        have k20 := k616
        have d20 := df2
        have lv := vars_len _ wf20.ok
        have lb := allB_len _ wf20.ok
        refine ⟨_, rfl, fv2, f2, rfl, d20, wf20, fr20, by omega, by omega, fun H21 gv g2 s21 dg2 sm2 gnm gnd gnf => ?_⟩
        have gwf := sm2.wf wf20
        have lb2 := sm2.lenB
        have lv2 := sm2.lenV
        have gfr := sm2.fr fr20
        have dd := wf20.dep
        have gd := gwf.dep
        refine ⟨_, rfl, _, rfl, fun e ne => ?_⟩
        have se := same_upd (o := .dK []) ne
        refine ⟨fv2, gv, e, f2, g2, id, 0, rfl, Dp.same (s21.trans se) d20, Dp.same se dg2, wf20.ok, gwf.ok, dd, sm2, ⟨[], upd_same, Nat.le_refl _, fun _ => rfl⟩, by omega, fun H22 s22 => ⟨true, rfl, iteF ?_⟩⟩
        have s22' := se.trans s22
        refine ⟨_, rfl, gv, g2, rfl, Dp.same s22' dg2, gwf.ok, gd, by omega, fun H23 rb s23 nb hb => ?_⟩
        refine ⟨_, rfl, rb, rfl, ⟨_, SqL.of hb⟩, fun L nL => ?_⟩
        refine lc_it (walk_list (K := K) (a := rb) (xs := g2.allB.map V.str)) (fun i H => Same H23 H ∧ H L = some (.lst [])) ⟨same_upd nL, upd_same⟩ (fun i H _ ⟨s, _⟩ => SqL.of (s _ _ hb)) ?_ ?_
        · rintro j y HA HB hj ⟨sA', hL⟩ ⟨rfl, hy⟩
          obtain ⟨z, hz, rfl⟩ := get_map hy
          have zm := List.mem_of_getElem? hz
          have cz : g2.allB.count z ≤ 1 := List.nodup_iff_count.mp gnd z
          refine ⟨rfl, _, rfl, z, rfl, gnm z zm, fun HC sC => ⟨true, rfl, iteF ⟨_, rfl, .inl ⟨rfl, _, SqL.of (sC _ _ (sA' _ _ hb))⟩, _, rfl, rb, g2.allB, z, rfl, rfl, SqL.of (sC _ _ (sA' _ _ hb)), _, _, rfl, rfl, _, rfl, cF (k := decide (((g2.allB.count z : Nat) : Int) > 1)) (decide_eq_false (by omega)) ⟨sA'.trans sC, sC _ _ hL⟩⟩⟩⟩
        rintro H24 ⟨s24, hL⟩
        refine ⟨L, _, rfl, .inl (SqL.of hL), _, _, rfl, rfl, _, rfl, cF (k := decide (((([] : List V).length : Nat) : Int) > 0)) (by decide +kernel) ?_⟩
        have s24' := (s22'.trans s23).trans s24
        refine ⟨_, rfl, gv, g2, rfl, Dp.same s24' dg2, gwf.ok, gfr, gd, fun H25 rf ss s25 nr hrf so => ?_⟩
        have s25' := s24'.trans s25
        have hb25 := s25 _ _ (s24 _ _ hb)
        have frees_eq : ∀ x, x ∈ g2.frees ↔ x ∈ f2.frees := fun x => by
          rw [sm2.frees]
          exact ⟨fun ⟨y, hy, e⟩ => by rw [e]; exact hy, fun hx => ⟨x, hx, rfl⟩⟩
        refine ⟨_, rfl, rb, rfl, ⟨_, SqL.of hb25⟩, fun M nM => ?_⟩
        refine lc_it (walk_list (K := K) (a := rb) (xs := g2.allB.map V.str)) (fun i H => Same H25 H ∧ H M = some (.lst [])) ⟨same_upd nM, upd_same⟩ (fun i H _ ⟨s, _⟩ => SqL.of (s _ _ hb25)) ?_ ?_
        · rintro j y HA HB hj ⟨sA', hL'⟩ ⟨rfl, hy⟩
          obtain ⟨z, hz, rfl⟩ := get_map hy
          have zm := List.mem_of_getElem? hz
          have nz : z ∉ ss := fun h => gnf z zm ((frees_eq z).mp ((so.mem z).mp h))
          exact ⟨rfl, _, rfl, _, rfl, rf, _, rfl, .inl (SqL.of (sA' _ _ hrf)), rfl, flat_strs _, _, rfl, cF (k := inV (.str z) (ss.map V.str)) (by rw [inV_str, decide_eq_false nz]) ⟨sA', hL'⟩⟩
        rintro H26 ⟨s26, hM⟩
        refine ⟨M, _, rfl, .inl (SqL.of hM), _, _, rfl, rfl, _, rfl, cF (k := decide (((([] : List V).length : Nat) : Int) > 0)) (by decide +kernel) ?_⟩
        have s26' := s25'.trans s26
        refine ⟨_, rfl, _, rfl, fv2, f2, rfl, Dp.same (s21.trans s26') d20, wf20.ok, fr20, dd, fun H27 rf2 ss2 s27 nr2 hrf2 so2 => ?_⟩
        have es : ss2 = ss := so2.uniq ⟨so.nd, so.so, fun x => (so.mem x).trans (frees_eq x)⟩
        subst es
        obtain ⟨cov, cl, csub⟩ := fr20.here
        have l20 : ss2.length ≤ 20 := Nat.le_trans (sub_len ss2 cov so2.nd fun x hx => csub x ((so2.mem x).mp hx)) cl
        refine ⟨.ref rf, .ref rf2, .list (ss2.map PyData.str), rfl, .lst (SqL.of (s27 _ _ (s26 _ _ hrf))) (DpAll.of_strs _), .lst (SqL.of hrf2) (DpAll.of_strs _), thin_le (thin_strs (by omega)) (by decide), true, rfl, iteF ?_⟩
        have s27' := s26'.trans s27
        refine ⟨_, rfl, _, rfl, gv, g2, rfl, Dp.same s27' dg2, gwf, gfr, by omega, by omega, fun H28 gv3 g3 s28 dg3 sm3 _ _ _ => ?_⟩
        intro e2 ne2
        have se2 := same_upd (o := .dK []) ne2
        refine ⟨gv, gv3, e2, g2, g3, id, 0, rfl, Dp.same ((s27'.trans s28).trans se2) dg2, Dp.same se2 dg3, gwf.ok, (sm3.wf gwf).ok, gd, sm3, ⟨[], upd_same, Nat.le_refl _, fun _ => rfl⟩, by omega, fun H29 s29 => ⟨true, rfl, iteF ?_⟩⟩
        have sF := (((s21.trans s27').trans s28).trans se2).trans s29
        exact ⟨_, _, _, _, _, _, rfl, dr20.same sF, k20.trans (.of sF)⟩
      · have k20 := k610
        have wf20 := wf
        have c20 := fz.2
        have fr20 : Fr20 f := Occ.fr _ gf.oc (by omega)
        have dr20 := dr10
        have d20 := df
        have lv := vars_len _ wf20.ok
        have lb := allB_len _ wf20.ok
        refine ⟨_, rfl, fv, f, rfl, d20, wf20, fr20, by omega, by omega, fun H21 gv g2 s21 dg2 sm2 gnm gnd gnf => ?_⟩
        have gwf := sm2.wf wf20
        have lb2 := sm2.lenB
        have lv2 := sm2.lenV
        have gfr := sm2.fr fr20
        have dd := wf20.dep
        have gd := gwf.dep
        refine ⟨_, rfl, _, rfl, fun e ne => ?_⟩
        have se := same_upd (o := .dK []) ne
        refine ⟨fv, gv, e, f, g2, id, 0, rfl, Dp.same (s21.trans se) d20, Dp.same se dg2, wf20.ok, gwf.ok, dd, sm2, ⟨[], upd_same, Nat.le_refl _, fun _ => rfl⟩, by omega, fun H22 s22 => ⟨true, rfl, iteF ?_⟩⟩
        have s22' := se.trans s22
        refine ⟨_, rfl, gv, g2, rfl, Dp.same s22' dg2, gwf.ok, gd, by omega, fun H23 rb s23 nb hb => ?_⟩
        refine ⟨_, rfl, rb, rfl, ⟨_, SqL.of hb⟩, fun L nL => ?_⟩
        refine lc_it (walk_list (K := K) (a := rb) (xs := g2.allB.map V.str)) (fun i H => Same H23 H ∧ H L = some (.lst [])) ⟨same_upd nL, upd_same⟩ (fun i H _ ⟨s, _⟩ => SqL.of (s _ _ hb)) ?_ ?_
        · rintro j y HA HB hj ⟨sA', hL⟩ ⟨rfl, hy⟩
          obtain ⟨z, hz, rfl⟩ := get_map hy
          have zm := List.mem_of_getElem? hz
          have cz : g2.allB.count z ≤ 1 := List.nodup_iff_count.mp gnd z
          refine ⟨rfl, _, rfl, z, rfl, gnm z zm, fun HC sC => ⟨true, rfl, iteF ⟨_, rfl, .inl ⟨rfl, _, SqL.of (sC _ _ (sA' _ _ hb))⟩, _, rfl, rb, g2.allB, z, rfl, rfl, SqL.of (sC _ _ (sA' _ _ hb)), _, _, rfl, rfl, _, rfl, cF (k := decide (((g2.allB.count z : Nat) : Int) > 1)) (decide_eq_false (by omega)) ⟨sA'.trans sC, sC _ _ hL⟩⟩⟩⟩
        rintro H24 ⟨s24, hL⟩
        refine ⟨L, _, rfl, .inl (SqL.of hL), _, _, rfl, rfl, _, rfl, cF (k := decide (((([] : List V).length : Nat) : Int) > 0)) (by decide +kernel) ?_⟩
        have s24' := (s22'.trans s23).trans s24
        refine ⟨_, rfl, gv, g2, rfl, Dp.same s24' dg2, gwf.ok, gfr, gd, fun H25 rf ss s25 nr hrf so => ?_⟩
        have s25' := s24'.trans s25
        have hb25 := s25 _ _ (s24 _ _ hb)
        have frees_eq : ∀ x, x ∈ g2.frees ↔ x ∈ f.frees := fun x => by
          rw [sm2.frees]
          exact ⟨fun ⟨y, hy, e⟩ => by rw [e]; exact hy, fun hx => ⟨x, hx, rfl⟩⟩
        refine ⟨_, rfl, rb, rfl, ⟨_, SqL.of hb25⟩, fun M nM => ?_⟩
        refine lc_it (walk_list (K := K) (a := rb) (xs := g2.allB.map V.str)) (fun i H => Same H25 H ∧ H M = some (.lst [])) ⟨same_upd nM, upd_same⟩ (fun i H _ ⟨s, _⟩ => SqL.of (s _ _ hb25)) ?_ ?_
        · rintro j y HA HB hj ⟨sA', hL'⟩ ⟨rfl, hy⟩
          obtain ⟨z, hz, rfl⟩ := get_map hy
          have zm := List.mem_of_getElem? hz
          have nz : z ∉ ss := fun h => gnf z zm ((frees_eq z).mp ((so.mem z).mp h))
          exact ⟨rfl, _, rfl, _, rfl, rf, _, rfl, .inl (SqL.of (sA' _ _ hrf)), rfl, flat_strs _, _, rfl, cF (k := inV (.str z) (ss.map V.str)) (by rw [inV_str, decide_eq_false nz]) ⟨sA', hL'⟩⟩
        rintro H26 ⟨s26, hM⟩
        refine ⟨M, _, rfl, .inl (SqL.of hM), _, _, rfl, rfl, _, rfl, cF (k := decide (((([] : List V).length : Nat) : Int) > 0)) (by decide +kernel) ?_⟩
        have s26' := s25'.trans s26
        refine ⟨_, rfl, _, rfl, fv, f, rfl, Dp.same (s21.trans s26') d20, wf20.ok, fr20, dd, fun H27 rf2 ss2 s27 nr2 hrf2 so2 => ?_⟩
        have es : ss2 = ss := so2.uniq ⟨so.nd, so.so, fun x => (so.mem x).trans (frees_eq x)⟩
        subst es
        obtain ⟨cov, cl, csub⟩ := fr20.here
        have l20 : ss2.length ≤ 20 := Nat.le_trans (sub_len ss2 cov so2.nd fun x hx => csub x ((so2.mem x).mp hx)) cl
        refine ⟨.ref rf, .ref rf2, .list (ss2.map PyData.str), rfl, .lst (SqL.of (s27 _ _ (s26 _ _ hrf))) (DpAll.of_strs _), .lst (SqL.of hrf2) (DpAll.of_strs _), thin_le (thin_strs (by omega)) (by decide), true, rfl, iteF ?_⟩
        have s27' := s26'.trans s27
        refine ⟨_, rfl, _, rfl, gv, g2, rfl, Dp.same s27' dg2, gwf, gfr, by omega, by omega, fun H28 gv3 g3 s28 dg3 sm3 _ _ _ => ?_⟩
        intro e2 ne2
        have se2 := same_upd (o := .dK []) ne2
        refine ⟨gv, gv3, e2, g2, g3, id, 0, rfl, Dp.same ((s27'.trans s28).trans se2) dg2, Dp.same se2 dg3, gwf.ok, (sm3.wf gwf).ok, gd, sm3, ⟨[], upd_same, Nat.le_refl _, fun _ => rfl⟩, by omega, fun H29 s29 => ⟨true, rfl, iteF ?_⟩⟩
        have sF := (((s21.trans s27').trans s28).trans se2).trans s29
        exact ⟨_, _, _, _, _, _, rfl, dr20.same sF, k20.trans (.of sF)⟩
    · rintro σ H7 ⟨y4, y5, y6, y7, y8, y9, rfl, dr7, k7⟩
      exact q _
end
theorem thB_ok {K : PySem.W.Frag} {x : Str} {kvs : List (Str × He.Dv)} (h : thB K x kvs = true) : ∀ k v, (k, v) ∈ kvs.map (fun p => (p.1, p.2.v K)) → ∃ u, PySem.W.nsIn K (He.ga K x) k = some (some u) ∧ RelV v u := by
  intro k v hm
  obtain ⟨p, hp, e⟩ := List.mem_map.mp hm
  have e1 : p.1 = k := congrArg Prod.fst e
  have e2 : p.2.v K = v := congrArg Prod.snd e
  have z := List.all_eq_true.mp h p hp
  rw [← e1, ← e2]
  cases q : PySem.W.nsIn K (He.ga K x) p.1 with
  | none => rw [q] at z; cases z
  | some o =>
    rw [q] at z
    cases o with
    | none => cases z
    | some u => exact ⟨u, rfl, He.relB_ok z⟩
theorem msB_ok {K : PySem.W.Frag} {x : Str} {ks : List Str} (h : msB K x ks = true) : Miss K x ks := by
  intro k hk
  have z := List.all_eq_true.mp h k hk
  cases q : PySem.W.nsIn K (He.ga K x) k with
  | none => rw [q] at z; cases z
  | some o =>
    rw [q] at z
    cases o with
    | none => rfl
    | some u => cases z
theorem facts {P : Program} {w : World} {K : PySem.W.Frag} {h : Heap} {mg : Str → Option Value} {f : Addr} (X : K.In h) (G : h.Ns mainGlobals mg) (hfa : mg ("law" : Str) = some (.ref f)) (c : He.SaysX fas fns tabs [] exs w h K) :
    ∃ fd : FuncData, (∀ (s : Shared) (v : Value), BindsTo s fd ⟨[v], []⟩ [("script", v)]) ∧ ∀ base : Heap, K.In base → base.Ns mainGlobals mg → FnOk P w K mg base CX0 50 f fd ["script"] (spLaw K) := by
  have cd := c.t.d
  obtain ⟨fd_is_whole, F_is_whole⟩ := cd.def_ 0 (d := d_is_whole) rfl
  have g_is_whole := He.glo_ok X G (cd.fact 0 (f := .glo "is_whole") rfl)
  have D_is_whole : Def K mg "is_whole" ["value"] (top 4) := ⟨_, fd_is_whole, F_is_whole, g_is_whole, FunD.bindsN F_is_whole fun _ _ _ _ _ _ us hl => match us, hl with | [_], _ => rfl⟩
  obtain ⟨fd_is_between, F_is_between⟩ := cd.def_ 1 (d := d_is_between) rfl
  have g_is_between := He.glo_ok X G (cd.fact 1 (f := .glo "is_between") rfl)
  have D_is_between : Def K mg "is_between" ["value", "low", "high"] (top 5) := ⟨_, fd_is_between, F_is_between, g_is_between, FunD.bindsN F_is_between fun _ _ _ _ _ _ us hl => match us, hl with | [_, _, _], _ => rfl⟩
  obtain ⟨fd_is_name, F_is_name⟩ := cd.def_ 2 (d := d_is_name) rfl
  have g_is_name := He.glo_ok X G (cd.fact 2 (f := .glo "is_name") rfl)
  have D_is_name : Def K mg "is_name" ["text"] (top 11) := ⟨_, fd_is_name, F_is_name, g_is_name, FunD.bindsN F_is_name fun _ _ _ _ _ _ us hl => match us, hl with | [_], _ => rfl⟩
  obtain ⟨fd_are_variables, F_are_variables⟩ := cd.def_ 3 (d := d_are_variables) rfl
  have g_are_variables := He.glo_ok X G (cd.fact 3 (f := .glo "_are_variables") rfl)
  have D_are_variables : Def K mg "_are_variables" ["value", "counts"] (top 22) := ⟨_, fd_are_variables, F_are_variables, g_are_variables, FunD.bindsN F_are_variables fun _ _ _ _ _ _ us hl => match us, hl with | [_, _], _ => rfl⟩
  obtain ⟨fd_are_different, F_are_different⟩ := cd.def_ 4 (d := d_are_different) rfl
  have g_are_different := He.glo_ok X G (cd.fact 4 (f := .glo "are_different") rfl)
  have D_are_different : Def K mg "are_different" ["value", "counts"] (top 23) := ⟨_, fd_are_different, F_are_different, g_are_different, FunD.bindsN F_are_different fun _ _ _ _ _ _ us hl => match us, hl with | [_, _], _ => rfl⟩
  obtain ⟨fd_is_rel, F_is_rel⟩ := cd.def_ 5 (d := d_is_rel) rfl
  have g_is_rel := He.glo_ok X G (cd.fact 5 (f := .glo "_is_rel") rfl)
  have D_is_rel : Def K mg "_is_rel" ["value"] (top 24) := ⟨_, fd_is_rel, F_is_rel, g_is_rel, FunD.bindsN F_is_rel fun _ _ _ _ _ _ us hl => match us, hl with | [_], _ => rfl⟩
  obtain ⟨fd_is_comparison, F_is_comparison⟩ := cd.def_ 6 (d := d_is_comparison) rfl
  have g_is_comparison := He.glo_ok X G (cd.fact 6 (f := .glo "_is_comparison") rfl)
  have D_is_comparison : Def K mg "_is_comparison" ["value"] (top 25) := ⟨_, fd_is_comparison, F_is_comparison, g_is_comparison, FunD.bindsN F_is_comparison fun _ _ _ _ _ _ us hl => match us, hl with | [_], _ => rfl⟩
  obtain ⟨fd_is_negation, F_is_negation⟩ := cd.def_ 7 (d := d_is_negation) rfl
  have g_is_negation := He.glo_ok X G (cd.fact 7 (f := .glo "_is_negation") rfl)
  have D_is_negation : Def K mg "_is_negation" ["_value"] (top 26) := ⟨_, fd_is_negation, F_is_negation, g_is_negation, FunD.bindsN F_is_negation fun _ _ _ _ _ _ us hl => match us, hl with | [_], _ => rfl⟩
  obtain ⟨fd_is_joined, F_is_joined⟩ := cd.def_ 8 (d := d_is_joined) rfl
  have g_is_joined := He.glo_ok X G (cd.fact 8 (f := .glo "_is_joined") rfl)
  have D_is_joined : Def K mg "_is_joined" ["value"] (top 27) := ⟨_, fd_is_joined, F_is_joined, g_is_joined, FunD.bindsN F_is_joined fun _ _ _ _ _ _ us hl => match us, hl with | [_], _ => rfl⟩
  obtain ⟨fd_is_quantified, F_is_quantified⟩ := cd.def_ 9 (d := d_is_quantified) rfl
  have g_is_quantified := He.glo_ok X G (cd.fact 9 (f := .glo "_is_quantified") rfl)
  have D_is_quantified : Def K mg "_is_quantified" ["value"] (top 28) := ⟨_, fd_is_quantified, F_is_quantified, g_is_quantified, FunD.bindsN F_is_quantified fun _ _ _ _ _ _ us hl => match us, hl with | [_], _ => rfl⟩
  obtain ⟨fd_is_fixed_point, F_is_fixed_point⟩ := cd.def_ 10 (d := d_is_fixed_point) rfl
  have g_is_fixed_point := He.glo_ok X G (cd.fact 10 (f := .glo "_is_fixed_point") rfl)
  have D_is_fixed_point : Def K mg "_is_fixed_point" ["value"] (top 29) := ⟨_, fd_is_fixed_point, F_is_fixed_point, g_is_fixed_point, FunD.bindsN F_is_fixed_point fun _ _ _ _ _ _ us hl => match us, hl with | [_], _ => rfl⟩
  obtain ⟨fd_is_closure, F_is_closure⟩ := cd.def_ 11 (d := d_is_closure) rfl
  have g_is_closure := He.glo_ok X G (cd.fact 11 (f := .glo "_is_closure") rfl)
  have D_is_closure : Def K mg "_is_closure" ["value"] (top 30) := ⟨_, fd_is_closure, F_is_closure, g_is_closure, FunD.bindsN F_is_closure fun _ _ _ _ _ _ us hl => match us, hl with | [_], _ => rfl⟩
  obtain ⟨fd_is_guess, F_is_guess⟩ := cd.def_ 12 (d := d_is_guess) rfl
  have g_is_guess := He.glo_ok X G (cd.fact 12 (f := .glo "_is_guess") rfl)
  have D_is_guess : Def K mg "_is_guess" ["value"] (top 31) := ⟨_, fd_is_guess, F_is_guess, g_is_guess, FunD.bindsN F_is_guess fun _ _ _ _ _ _ us hl => match us, hl with | [_], _ => rfl⟩
  obtain ⟨fd_is_shape, F_is_shape⟩ := cd.def_ 13 (d := d_is_shape) rfl
  have g_is_shape := He.glo_ok X G (cd.fact 13 (f := .glo "is_shape") rfl)
  have D_is_shape : Def K mg "is_shape" ["value"] (top 33) := ⟨_, fd_is_shape, F_is_shape, g_is_shape, FunD.bindsN F_is_shape fun _ _ _ _ _ _ us hl => match us, hl with | [_], _ => rfl⟩
  obtain ⟨fd_inner, F_inner⟩ := cd.def_ 14 (d := d_inner) rfl
  have g_inner := He.glo_ok X G (cd.fact 14 (f := .glo "inner") rfl)
  have D_inner : Def K mg "inner" ["formula"] (top 34) := ⟨_, fd_inner, F_inner, g_inner, FunD.bindsN F_inner fun _ _ _ _ _ _ us hl => match us, hl with | [_], _ => rfl⟩
  obtain ⟨fd_with_item, F_with_item⟩ := cd.def_ 15 (d := d_with_item) rfl
  have g_with_item := He.glo_ok X G (cd.fact 15 (f := .glo "_with_item") rfl)
  have D_with_item : Def K mg "_with_item" ["formula", "at", "item"] (top 35) := ⟨_, fd_with_item, F_with_item, g_with_item, FunD.bindsN F_with_item fun _ _ _ _ _ _ us hl => match us, hl with | [_, _, _], _ => rfl⟩
  obtain ⟨fd_with_inner, F_with_inner⟩ := cd.def_ 16 (d := d_with_inner) rfl
  have g_with_inner := He.glo_ok X G (cd.fact 16 (f := .glo "with_inner") rfl)
  have D_with_inner : Def K mg "with_inner" ["formula", "changed"] (top 36) := ⟨_, fd_with_inner, F_with_inner, g_with_inner, FunD.bindsN F_with_inner fun _ _ _ _ _ _ us hl => match us, hl with | [_, _], _ => rfl⟩
  obtain ⟨fd_own, F_own⟩ := cd.def_ 17 (d := d_own) rfl
  have g_own := He.glo_ok X G (cd.fact 17 (f := .glo "own") rfl)
  have D_own : Def K mg "own" ["formula"] (top 37) := ⟨_, fd_own, F_own, g_own, FunD.bindsN F_own fun _ _ _ _ _ _ us hl => match us, hl with | [_], _ => rfl⟩
  obtain ⟨fd_with_own, F_with_own⟩ := cd.def_ 18 (d := d_with_own) rfl
  have g_with_own := He.glo_ok X G (cd.fact 18 (f := .glo "with_own") rfl)
  have D_with_own : Def K mg "with_own" ["formula", "variables"] (top 38) := ⟨_, fd_with_own, F_with_own, g_with_own, FunD.bindsN F_with_own fun _ _ _ _ _ _ us hl => match us, hl with | [_, _], _ => rfl⟩
  obtain ⟨fd_arguments, F_arguments⟩ := cd.def_ 19 (d := d_arguments) rfl
  have g_arguments := He.glo_ok X G (cd.fact 19 (f := .glo "arguments") rfl)
  have D_arguments : Def K mg "arguments" ["formula"] (top 39) := ⟨_, fd_arguments, F_arguments, g_arguments, FunD.bindsN F_arguments fun _ _ _ _ _ _ us hl => match us, hl with | [_], _ => rfl⟩
  obtain ⟨fd_with_arguments, F_with_arguments⟩ := cd.def_ 20 (d := d_with_arguments) rfl
  have g_with_arguments := He.glo_ok X G (cd.fact 20 (f := .glo "with_arguments") rfl)
  have D_with_arguments : Def K mg "with_arguments" ["formula", "variables"] (top 40) := ⟨_, fd_with_arguments, F_with_arguments, g_with_arguments, FunD.bindsN F_with_arguments fun _ _ _ _ _ _ us hl => match us, hl with | [_, _], _ => rfl⟩
  obtain ⟨fd_bound_name, F_bound_name⟩ := cd.def_ 21 (d := d_bound_name) rfl
  have g_bound_name := He.glo_ok X G (cd.fact 21 (f := .glo "bound_name") rfl)
  have D_bound_name : Def K mg "bound_name" ["formula"] (top 41) := ⟨_, fd_bound_name, F_bound_name, g_bound_name, FunD.bindsN F_bound_name fun _ _ _ _ _ _ us hl => match us, hl with | [_], _ => rfl⟩
  obtain ⟨fd_bound_arity, F_bound_arity⟩ := cd.def_ 22 (d := d_bound_arity) rfl
  have g_bound_arity := He.glo_ok X G (cd.fact 22 (f := .glo "bound_arity") rfl)
  have D_bound_arity : Def K mg "bound_arity" ["formula"] (top 42) := ⟨_, fd_bound_arity, F_bound_arity, g_bound_arity, FunD.bindsN F_bound_arity fun _ _ _ _ _ _ us hl => match us, hl with | [_], _ => rfl⟩
  obtain ⟨fd_check_shapes, F_check_shapes⟩ := cd.def_ 23 (d := d_check_shapes) rfl
  have g_check_shapes := He.glo_ok X G (cd.fact 23 (f := .glo "_check_shapes") rfl)
  have D_check_shapes : Def K mg "_check_shapes" ["value", "levels_left", "parts_left"] (top 46) := ⟨_, fd_check_shapes, F_check_shapes, g_check_shapes, FunD.bindsN F_check_shapes fun _ _ _ _ _ _ us hl => match us, hl with | [_, _, _], _ => rfl⟩
  obtain ⟨fd_arities_in, F_arities_in⟩ := cd.def_ 24 (d := d_arities_in) rfl
  have g_arities_in := He.glo_ok X G (cd.fact 24 (f := .glo "arities_in") rfl)
  have D_arities_in : Def K mg "arities_in" ["formula"] (top 47) := ⟨_, fd_arities_in, F_arities_in, g_arities_in, FunD.bindsN F_arities_in fun _ _ _ _ _ _ us hl => match us, hl with | [_], _ => rfl⟩
  obtain ⟨fd_is_positive_in, F_is_positive_in⟩ := cd.def_ 25 (d := d_is_positive_in) rfl
  have g_is_positive_in := He.glo_ok X G (cd.fact 25 (f := .glo "is_positive_in") rfl)
  have D_is_positive_in : Def K mg "is_positive_in" ["formula", "name", "sign"] (top 48) := ⟨_, fd_is_positive_in, F_is_positive_in, g_is_positive_in, FunD.bindsN F_is_positive_in fun _ _ _ _ _ _ us hl => match us, hl with | [_, _, _], _ => rfl⟩
  obtain ⟨fd_check_fixed_points, F_check_fixed_points⟩ := cd.def_ 26 (d := d_check_fixed_points) rfl
  have g_check_fixed_points := He.glo_ok X G (cd.fact 26 (f := .glo "_check_fixed_points") rfl)
  have D_check_fixed_points : Def K mg "_check_fixed_points" ["formula"] (top 49) := ⟨_, fd_check_fixed_points, F_check_fixed_points, g_check_fixed_points, FunD.bindsN F_check_fixed_points fun _ _ _ _ _ _ us hl => match us, hl with | [_], _ => rfl⟩
  obtain ⟨fd_check_formula, F_check_formula⟩ := cd.def_ 27 (d := d_check_formula) rfl
  have g_check_formula := He.glo_ok X G (cd.fact 27 (f := .glo "check_formula") rfl)
  have D_check_formula : Def K mg "check_formula" ["formula"] (top 50) := ⟨_, fd_check_formula, F_check_formula, g_check_formula, FunD.bindsN F_check_formula fun _ _ _ _ _ _ us hl => match us, hl with | [_], _ => rfl⟩
  obtain ⟨fd_pfree, F_pfree⟩ := cd.def_ 28 (d := d_pfree) rfl
  have g_pfree := He.glo_ok X G (cd.fact 28 (f := .glo "_free") rfl)
  have D_pfree : Def K mg "_free" ["formula"] (top 51) := ⟨_, fd_pfree, F_pfree, g_pfree, FunD.bindsN F_pfree fun _ _ _ _ _ _ us hl => match us, hl with | [_], _ => rfl⟩
  obtain ⟨fd_free, F_free⟩ := cd.def_ 29 (d := d_free) rfl
  have g_free := He.glo_ok X G (cd.fact 29 (f := .glo "free") rfl)
  have D_free : Def K mg "free" ["formula"] (top 52) := ⟨_, fd_free, F_free, g_free, FunD.bindsN F_free fun _ _ _ _ _ _ us hl => match us, hl with | [_], _ => rfl⟩
  obtain ⟨fd_variables_in, F_variables_in⟩ := cd.def_ 30 (d := d_variables_in) rfl
  have g_variables_in := He.glo_ok X G (cd.fact 30 (f := .glo "variables_in") rfl)
  have D_variables_in : Def K mg "variables_in" ["formula"] (top 53) := ⟨_, fd_variables_in, F_variables_in, g_variables_in, FunD.bindsN F_variables_in fun _ _ _ _ _ _ us hl => match us, hl with | [_], _ => rfl⟩
  obtain ⟨fd_Names___init__, F_Names___init__⟩ := cd.def_ 31 (d := d_Names___init__) rfl
  have D_Names___init__ : DefM K "Names" "__init__" "Names.__init__" ["self", "barred", "known"] (inClass (top 55) 0) := ⟨_, fd_Names___init__, F_Names___init__, He.meth_ok (cd.fact 31 (f := .meth "Names" "__init__") rfl), FunD.bindsN F_Names___init__ fun _ _ _ _ _ _ us hl => match us, hl with | [_, _, _], _ => rfl⟩
  obtain ⟨fd_Names_fresh, F_Names_fresh⟩ := cd.def_ 32 (d := d_Names_fresh) rfl
  have D_Names_fresh : DefM K "Names" "fresh" "Names.fresh" ["self"] (inClass (top 55) 1) := ⟨_, fd_Names_fresh, F_Names_fresh, He.meth_ok (cd.fact 32 (f := .meth "Names" "fresh") rfl), FunD.bindsN F_Names_fresh fun _ _ _ _ _ _ us hl => match us, hl with | [_], _ => rfl⟩
  obtain ⟨fd_Names_instead_of, F_Names_instead_of⟩ := cd.def_ 33 (d := d_Names_instead_of) rfl
  have D_Names_instead_of : DefM K "Names" "instead_of" "Names.instead_of" ["self", "name"] (inClass (top 55) 2) := ⟨_, fd_Names_instead_of, F_Names_instead_of, He.meth_ok (cd.fact 33 (f := .meth "Names" "instead_of") rfl), FunD.bindsN F_Names_instead_of fun _ _ _ _ _ _ us hl => match us, hl with | [_, _], _ => rfl⟩
  obtain ⟨fd_renamed, F_renamed⟩ := cd.def_ 34 (d := d_renamed) rfl
  have g_renamed := He.glo_ok X G (cd.fact 34 (f := .glo "renamed") rfl)
  have D_renamed : Def K mg "renamed" ["formula", "changes", "source"] (top 56) := ⟨_, fd_renamed, F_renamed, g_renamed, FunD.bindsN F_renamed fun _ _ _ _ _ _ us hl => match us, hl with | [_, _, _], _ => rfl⟩
  obtain ⟨fd_apart, F_apart⟩ := cd.def_ 35 (d := d_apart) rfl
  have g_apart := He.glo_ok X G (cd.fact 35 (f := .glo "apart") rfl)
  have D_apart : Def K mg "apart" ["formula"] (top 58) := ⟨_, fd_apart, F_apart, g_apart, FunD.bindsN F_apart fun _ _ _ _ _ _ us hl => match us, hl with | [_], _ => rfl⟩
  obtain ⟨fd_law_mixed, F_law_mixed⟩ := cd.def_ 36 (d := d_law_mixed) rfl
  have g_law_mixed := He.glo_ok X G (cd.fact 36 (f := .glo "_law_mixed") rfl)
  have D_law_mixed : Def K mg "_law_mixed" ["number", "k"] (top 60) := ⟨_, fd_law_mixed, F_law_mixed, g_law_mixed, FunD.bindsN F_law_mixed fun _ _ _ _ _ _ us hl => match us, hl with | [_, _], _ => rfl⟩
  obtain ⟨fd_law_numbers, F_law_numbers⟩ := cd.def_ 37 (d := d_law_numbers) rfl
  have g_law_numbers := He.glo_ok X G (cd.fact 37 (f := .glo "_law_numbers") rfl)
  have D_law_numbers : Def K mg "_law_numbers" ["script"] (top 61) := ⟨_, fd_law_numbers, F_law_numbers, g_law_numbers, FunD.bindsN F_law_numbers fun _ _ _ _ _ _ us hl => match us, hl with | [_], _ => rfl⟩
  obtain ⟨fd_law_draw, F_law_draw⟩ := cd.def_ 38 (d := d_law_draw) rfl
  have g_law_draw := He.glo_ok X G (cd.fact 38 (f := .glo "_law_draw") rfl)
  have D_law_draw : Def K mg "_law_draw" ["draws"] (top 62) := ⟨_, fd_law_draw, F_law_draw, g_law_draw, FunD.bindsN F_law_draw fun _ _ _ _ _ _ us hl => match us, hl with | [_], _ => rfl⟩
  obtain ⟨fd_law_equal, F_law_equal⟩ := cd.def_ 39 (d := d_law_equal) rfl
  have g_law_equal := He.glo_ok X G (cd.fact 39 (f := .glo "_law_equal") rfl)
  have D_law_equal : Def K mg "_law_equal" ["actual", "due"] (top 63) := ⟨_, fd_law_equal, F_law_equal, g_law_equal, FunD.bindsN F_law_equal fun _ _ _ _ _ _ us hl => match us, hl with | [_, _], _ => rfl⟩
  obtain ⟨fd_law_all_equal, F_law_all_equal⟩ := cd.def_ 40 (d := d_law_all_equal) rfl
  have g_law_all_equal := He.glo_ok X G (cd.fact 40 (f := .glo "_law_all_equal") rfl)
  have D_law_all_equal : Def K mg "_law_all_equal" ["actual", "due"] (top 64) := ⟨_, fd_law_all_equal, F_law_all_equal, g_law_all_equal, FunD.bindsN F_law_all_equal fun _ _ _ _ _ _ us hl => match us, hl with | [_, _], _ => rfl⟩
  obtain ⟨fd_law_some_of, F_law_some_of⟩ := cd.def_ 41 (d := d_law_some_of) rfl
  have g_law_some_of := He.glo_ok X G (cd.fact 41 (f := .glo "_law_some_of") rfl)
  have D_law_some_of : Def K mg "_law_some_of" ["draws", "pool", "many"] (top 65) := ⟨_, fd_law_some_of, F_law_some_of, g_law_some_of, FunD.bindsN F_law_some_of fun _ _ _ _ _ _ us hl => match us, hl with | [_, _, _], _ => rfl⟩
  obtain ⟨fd_law_atom, F_law_atom⟩ := cd.def_ 42 (d := d_law_atom) rfl
  have g_law_atom := He.glo_ok X G (cd.fact 42 (f := .glo "_law_atom") rfl)
  have D_law_atom : Def K mg "_law_atom" ["draws", "pool", "names"] (top 66) := ⟨_, fd_law_atom, F_law_atom, g_law_atom, FunD.bindsN F_law_atom fun _ _ _ _ _ _ us hl => match us, hl with | [_, _, _], _ => rfl⟩
  obtain ⟨fd_law_within, F_law_within⟩ := cd.def_ 43 (d := d_law_within) rfl
  have g_law_within := He.glo_ok X G (cd.fact 43 (f := .glo "_law_within") rfl)
  have D_law_within : Def K mg "_law_within" ["names", "name", "arity", "mode"] (top 67) := ⟨_, fd_law_within, F_law_within, g_law_within, FunD.bindsN F_law_within fun _ _ _ _ _ _ us hl => match us, hl with | [_, _, _, _], _ => rfl⟩
  obtain ⟨fd_law_turned, F_law_turned⟩ := cd.def_ 44 (d := d_law_turned) rfl
  have g_law_turned := He.glo_ok X G (cd.fact 44 (f := .glo "_law_turned") rfl)
  have D_law_turned : Def K mg "_law_turned" ["names"] (top 68) := ⟨_, fd_law_turned, F_law_turned, g_law_turned, FunD.bindsN F_law_turned fun _ _ _ _ _ _ us hl => match us, hl with | [_], _ => rfl⟩
  obtain ⟨fd_law_barred, F_law_barred⟩ := cd.def_ 45 (d := d_law_barred) rfl
  have g_law_barred := He.glo_ok X G (cd.fact 45 (f := .glo "_law_barred") rfl)
  have D_law_barred : Def K mg "_law_barred" ["names"] (top 69) := ⟨_, fd_law_barred, F_law_barred, g_law_barred, FunD.bindsN F_law_barred fun _ _ _ _ _ _ us hl => match us, hl with | [_], _ => rfl⟩
  obtain ⟨fd_law_bound, F_law_bound⟩ := cd.def_ 46 (d := d_law_bound) rfl
  have g_law_bound := He.glo_ok X G (cd.fact 46 (f := .glo "_law_bound") rfl)
  have D_law_bound : Def K mg "_law_bound" ["draws", "deep", "pool", "names", "kinds"] (top 70) := ⟨_, fd_law_bound, F_law_bound, g_law_bound, FunD.bindsN F_law_bound fun _ _ _ _ _ _ us hl => match us, hl with | [_, _, _, _, _], _ => rfl⟩
  obtain ⟨fd_law_formula, F_law_formula⟩ := cd.def_ 47 (d := d_law_formula) rfl
  have g_law_formula := He.glo_ok X G (cd.fact 47 (f := .glo "_law_formula") rfl)
  have D_law_formula : Def K mg "_law_formula" ["draws", "deep", "pool", "names", "kinds"] (top 71) := ⟨_, fd_law_formula, F_law_formula, g_law_formula, FunD.bindsN F_law_formula fun _ _ _ _ _ _ us hl => match us, hl with | [_, _, _, _, _], _ => rfl⟩
  obtain ⟨fd_law_names, F_law_names⟩ := cd.def_ 48 (d := d_law_names) rfl
  have g_law_names := He.glo_ok X G (cd.fact 48 (f := .glo "_law_names") rfl)
  have D_law_names : Def K mg "_law_names" ["draws"] (top 72) := ⟨_, fd_law_names, F_law_names, g_law_names, FunD.bindsN F_law_names fun _ _ _ _ _ _ us hl => match us, hl with | [_], _ => rfl⟩
  obtain ⟨fd_law_parts, F_law_parts⟩ := cd.def_ 49 (d := d_law_parts) rfl
  have g_law_parts := He.glo_ok X G (cd.fact 49 (f := .glo "_law_parts") rfl)
  have D_law_parts : Def K mg "_law_parts" ["f"] (top 73) := ⟨_, fd_law_parts, F_law_parts, g_law_parts, FunD.bindsN F_law_parts fun _ _ _ _ _ _ us hl => match us, hl with | [_], _ => rfl⟩
  obtain ⟨fd_law_bound_here, F_law_bound_here⟩ := cd.def_ 50 (d := d_law_bound_here) rfl
  have g_law_bound_here := He.glo_ok X G (cd.fact 50 (f := .glo "_law_bound_here") rfl)
  have D_law_bound_here : Def K mg "_law_bound_here" ["f"] (top 74) := ⟨_, fd_law_bound_here, F_law_bound_here, g_law_bound_here, FunD.bindsN F_law_bound_here fun _ _ _ _ _ _ us hl => match us, hl with | [_], _ => rfl⟩
  obtain ⟨fd_law_own, F_law_own⟩ := cd.def_ 51 (d := d_law_own) rfl
  have g_law_own := He.glo_ok X G (cd.fact 51 (f := .glo "_law_own") rfl)
  have D_law_own : Def K mg "_law_own" ["f"] (top 75) := ⟨_, fd_law_own, F_law_own, g_law_own, FunD.bindsN F_law_own fun _ _ _ _ _ _ us hl => match us, hl with | [_], _ => rfl⟩
  obtain ⟨fd_law_free, F_law_free⟩ := cd.def_ 52 (d := d_law_free) rfl
  have g_law_free := He.glo_ok X G (cd.fact 52 (f := .glo "_law_free") rfl)
  have D_law_free : Def K mg "_law_free" ["f"] (top 76) := ⟨_, fd_law_free, F_law_free, g_law_free, FunD.bindsN F_law_free fun _ _ _ _ _ _ us hl => match us, hl with | [_], _ => rfl⟩
  obtain ⟨fd_law_is_name, F_law_is_name⟩ := cd.def_ 53 (d := d_law_is_name) rfl
  have g_law_is_name := He.glo_ok X G (cd.fact 53 (f := .glo "_law_is_name") rfl)
  have D_law_is_name : Def K mg "_law_is_name" ["word"] (top 77) := ⟨_, fd_law_is_name, F_law_is_name, g_law_is_name, FunD.bindsN F_law_is_name fun _ _ _ _ _ _ us hl => match us, hl with | [_], _ => rfl⟩
  obtain ⟨fd_law_same_names, F_law_same_names⟩ := cd.def_ 54 (d := d_law_same_names) rfl
  have g_law_same_names := He.glo_ok X G (cd.fact 54 (f := .glo "_law_same_names") rfl)
  have D_law_same_names : Def K mg "_law_same_names" ["first", "second", "pairs"] (top 78) := ⟨_, fd_law_same_names, F_law_same_names, g_law_same_names, FunD.bindsN F_law_same_names fun _ _ _ _ _ _ us hl => match us, hl with | [_, _, _], _ => rfl⟩
  obtain ⟨fd_law_same, F_law_same⟩ := cd.def_ 55 (d := d_law_same) rfl
  have g_law_same := He.glo_ok X G (cd.fact 55 (f := .glo "_law_same") rfl)
  have D_law_same : Def K mg "_law_same" ["f", "g", "pairs"] (top 79) := ⟨_, fd_law_same, F_law_same, g_law_same, FunD.bindsN F_law_same fun _ _ _ _ _ _ us hl => match us, hl with | [_, _, _], _ => rfl⟩
  obtain ⟨fd_law_all_bound, F_law_all_bound⟩ := cd.def_ 56 (d := d_law_all_bound) rfl
  have g_law_all_bound := He.glo_ok X G (cd.fact 56 (f := .glo "_law_all_bound") rfl)
  have D_law_all_bound : Def K mg "_law_all_bound" ["f"] (top 80) := ⟨_, fd_law_all_bound, F_law_all_bound, g_law_all_bound, FunD.bindsN F_law_all_bound fun _ _ _ _ _ _ us hl => match us, hl with | [_], _ => rfl⟩
  obtain ⟨fd_law, F_law⟩ := cd.def_ 57 (d := d_law) rfl
  have g_law := He.glo_ok X G (cd.fact 57 (f := .glo "law") rfl)
  have D_law : Def K mg "law" ["script"] (top 81) := ⟨_, fd_law, F_law, g_law, FunD.bindsN F_law fun _ _ _ _ _ _ us hl => match us, hl with | [_], _ => rfl⟩
  have T : Txt mg := ⟨He.free_ok X G (cd.fact 58 (f := .free "len") rfl), He.free_ok X G (cd.fact 59 (f := .free "range") rfl), He.free_ok X G (cd.fact 60 (f := .free "isinstance") rfl), He.free_ok X G (cd.fact 61 (f := .free "list") rfl), He.free_ok X G (cd.fact 62 (f := .free "tuple") rfl), He.free_ok X G (cd.fact 63 (f := .free "bool") rfl), He.free_ok X G (cd.fact 64 (f := .free "int") rfl), He.free_ok X G (cd.fact 65 (f := .free "str") rfl), He.free_ok X G (cd.fact 66 (f := .free "sorted") rfl), He.free_ok X G (cd.fact 67 (f := .free "set") rfl), He.free_ok X G (cd.fact 68 (f := .free "all") rfl), He.free_ok X G (cd.fact 69 (f := .free "any") rfl), He.free_ok X G (cd.fact 70 (f := .free "sum") rfl), He.free_ok X G (cd.fact 71 (f := .free "max") rfl), He.free_ok X G (cd.fact 72 (f := .free "min") rfl), He.free_ok X G (cd.fact 73 (f := .free "dict") rfl), He.free_ok X G (cd.fact 74 (f := .free "enumerate") rfl), He.free_ok X G (cd.fact 75 (f := .free "zip") rfl)⟩
  have c_LONGEST_NAME := He.int_ok X G (cd.fact 76 (f := .int "LONGEST_NAME" 12) rfl)
  have c_MOST_JOINED := He.int_ok X G (cd.fact 77 (f := .int "MOST_JOINED" 40) rfl)
  have c_LARGEST_GUESS := He.int_ok X G (cd.fact 78 (f := .int "LARGEST_GUESS" 3) rfl)
  have c_MOST_PARTS := He.int_ok X G (cd.fact 79 (f := .int "MOST_PARTS" 2000) rfl)
  have c_MOST_DEEP := He.int_ok X G (cd.fact 80 (f := .int "MOST_DEEP" 40) rfl)
  have c_LETTERS := He.str_ok X G (cd.fact 81 (f := .str "LETTERS" "abcdefghijklmnopqrstuvwxyz") rfl)
  have c_FIGURES := He.str_ok X G (cd.fact 82 (f := .str "FIGURES" "0123456789") rfl)
  have c_RESERVED := He.glo_ok X G (cd.fact 83 (f := .glo "RESERVED") rfl)
  have c_REL_COUNTS := He.glo_ok X G (cd.fact 84 (f := .glo "REL_COUNTS") rfl)
  have c_OWN_COUNTS := He.glo_ok X G (cd.fact 85 (f := .glo "OWN_COUNTS") rfl)
  have c_TC_COUNTS := He.glo_ok X G (cd.fact 86 (f := .glo "TC_COUNTS") rfl)
  have c_LENGTHS := He.glo_ok X G (cd.fact 87 (f := .glo "LENGTHS") rfl)
  have c_BODY_AT := He.glo_ok X G (cd.fact 88 (f := .glo "BODY_AT") rfl)
  have c_OWN_AT := He.glo_ok X G (cd.fact 89 (f := .glo "OWN_AT") rfl)
  have c_ARGUMENTS_AT := He.glo_ok X G (cd.fact 90 (f := .glo "ARGUMENTS_AT") rfl)
  have c_TESTS := He.glo_ok X G (cd.fact 91 (f := .glo "TESTS") rfl)
  have gC_Names := He.glo_ok X G (cd.fact 92 (f := .glo "Names") rfl)
  have cC_Names := He.cls_ok (cd.fact 93 (f := .cls "Names") rfl)
  have mC_Names := He.mkr_ok (cd.fact 94 (f := .mkr "Names") rfl)
  have nC_Names_used := He.noat_ok (cd.fact 95 (f := .noat "Names" "used") rfl)
  have nC_Names_known := He.noat_ok (cd.fact 96 (f := .noat "Names" "known") rfl)
  have nC_Names_made := He.noat_ok (cd.fact 97 (f := .noat "Names" "made") rfl)
  have t_LENGTHS := c.t.tab 0 (t := ((fun K => He.ga K "LENGTHS"), ["rel", "eq", "less", "not", "and", "or", "some", "all", "lfp", "pfp", "tc", "guess"])) rfl
  have t_BODY_AT := c.t.tab 1 (t := ((fun K => He.ga K "BODY_AT"), ["not", "some", "all", "lfp", "pfp", "tc", "guess"])) rfl
  have t_OWN_AT := c.t.tab 2 (t := ((fun K => He.ga K "OWN_AT"), ["some", "all", "lfp", "pfp", "tc"])) rfl
  have t_ARGUMENTS_AT := c.t.tab 3 (t := ((fun K => He.ga K "ARGUMENTS_AT"), ["rel", "lfp", "pfp", "tc"])) rfl
  have t_TESTS := c.t.tab 4 (t := ((fun K => He.ga K "TESTS"), ["rel", "eq", "less", "not", "and", "or", "some", "all", "lfp", "pfp", "tc", "guess"])) rfl
  have more0 := c.more
  obtain ⟨x_RESERVED, more1⟩ := He.ba more0
  obtain ⟨x_REL_COUNTS, more2⟩ := He.ba more1
  obtain ⟨x_OWN_COUNTS, more3⟩ := He.ba more2
  obtain ⟨x_TC_COUNTS, more4⟩ := He.ba more3
  obtain ⟨x_LENGTHS, more5⟩ := He.ba more4
  obtain ⟨x_BODY_AT, more6⟩ := He.ba more5
  obtain ⟨x_OWN_AT, more7⟩ := He.ba more6
  obtain ⟨x_ARGUMENTS_AT, more8⟩ := He.ba more7
  obtain ⟨x_TESTS, more9⟩ := He.ba more8
  obtain ⟨m_BODY_AT, more10⟩ := He.ba more9
  obtain ⟨m_OWN_AT, more11⟩ := He.ba more10
  have m_ARGUMENTS_AT := more11
  have e := hfa.symm.trans g_law
  cases e
  have b := FunD.bindsA (ps := ["script"]) F_law fun _ _ _ _ _ _ us hl => match us, hl with | [_], _ => rfl
  refine ⟨fd_law, fun s v => b s [v] rfl, fun base _ _ => ?_⟩
  have h_is := has_is_name (P := P) (w := w) (base := base) D_is_name T c_LONGEST_NAME c_LETTERS c_FIGURES c_RESERVED (fun H => He.tupB_ok x_RESERVED H)
  have S : Shp K w mg := ⟨c_MOST_JOINED, c_LARGEST_GUESS, c_REL_COUNTS, fun H => He.tupB_ok x_REL_COUNTS H, c_OWN_COUNTS, fun H => He.tupB_ok x_OWN_COUNTS H, c_TC_COUNTS, fun H => He.tupB_ok x_TC_COUNTS H,
    ⟨c_LENGTHS, t_LENGTHS, thB_ok x_LENGTHS⟩, ⟨c_BODY_AT, t_BODY_AT, thB_ok x_BODY_AT⟩, ⟨c_OWN_AT, t_OWN_AT, thB_ok x_OWN_AT⟩, ⟨c_ARGUMENTS_AT, t_ARGUMENTS_AT, thB_ok x_ARGUMENTS_AT⟩, ⟨c_TESTS, t_TESTS, thB_ok x_TESTS⟩, msB_ok m_BODY_AT, msB_ok m_OWN_AT, msB_ok m_ARGUMENTS_AT⟩
  have h_inner := has_inner (P := P) (base := base) D_inner T S
  have h_own := has_own (P := P) (base := base) D_own T S
  have h_args := has_arguments (P := P) (base := base) D_arguments T S
  have h_bname := has_bound_name (P := P) (w := w) (base := base) D_bound_name
  have h_barity := has_bound_arity (P := P) (w := w) (base := base) D_bound_arity T
  have h_vars := has_are_variables D_are_variables T h_is
  have h_diff := has_are_different D_are_different T h_vars
  have h_whole := has_is_whole (P := P) (w := w) (base := base) D_is_whole T
  have h_between := has_is_between D_is_between h_whole
  have t_rel := has_is_rel D_is_rel S h_is h_vars
  have t_comp := has_is_comparison D_is_comparison h_is
  have t_neg := has_is_negation (P := P) (w := w) (base := base) D_is_negation
  have t_join := has_is_joined (P := P) (base := base) D_is_joined T S
  have t_quant := has_is_quantified D_is_quantified S h_diff
  have t_fix := has_is_fixed_point D_is_fixed_point T S h_is h_vars h_diff
  have t_clo := has_is_closure D_is_closure T S h_vars h_diff
  have t_guess := has_is_guess D_is_guess S h_is h_between
  have tests : Tests P w K mg base := by
    refine ⟨fun k => ?_, fun k => ?_⟩
    · cases k
      · exact g_is_rel
      · exact g_is_comparison
      · exact g_is_comparison
      · exact g_is_negation
      · exact g_is_joined
      · exact g_is_joined
      · exact g_is_quantified
      · exact g_is_quantified
      · exact g_is_fixed_point
      · exact g_is_fixed_point
      · exact g_is_closure
      · exact g_is_guess
    · cases k
      · exact ⟨_, t_rel⟩
      · exact ⟨_, t_comp⟩
      · exact ⟨_, t_comp⟩
      · exact ⟨_, t_neg⟩
      · exact ⟨_, t_join⟩
      · exact ⟨_, t_join⟩
      · exact ⟨_, t_quant⟩
      · exact ⟨_, t_quant⟩
      · exact ⟨_, t_fix⟩
      · exact ⟨_, t_fix⟩
      · exact ⟨_, t_clo⟩
      · exact ⟨_, t_guess⟩
  have h_shape := has_is_shape D_is_shape T S tests
  have h_shapes := has_check_shapes D_check_shapes h_shape h_inner
  have h_pos := has_is_positive D_is_positive_in h_bname h_inner
  have h_fp := has_check_fixed_points D_check_fixed_points h_pos h_inner
  have h_ar := has_arities D_arities_in T h_bname h_inner h_barity
  have h_check := has_check_formula D_check_formula c_MOST_DEEP c_MOST_PARTS h_shapes h_ar h_fp
  have h_mixed := has_mixed (P := P) (w := w) (base := base) D_law_mixed
  have h_numbers := has_numbers D_law_numbers T h_mixed
  have h_draw := has_draw D_law_draw T h_mixed
  have h_some := has_some_of D_law_some_of T h_draw
  have h_within := has_within (P := P) (w := w) (base := base) D_law_within
  have h_turned := has_turned (P := P) (w := w) (base := base) D_law_turned
  have h_barred := has_barred (P := P) (w := w) (base := base) D_law_barred
  have h_atom := has_atom D_law_atom T h_draw
  have h_form := has_formula D_law_formula T h_draw h_atom h_turned fun n C => has_bound D_law_bound T h_draw h_some h_within h_barred C
  have h_names := has_names D_law_names T h_draw
  have ND : NdC K := ⟨cC_Names, nC_Names_used, nC_Names_known, nC_Names_made⟩
  have m_init := has_n_init (P := P) (w := w) (mg := mg) (base := base) D_Names___init__ ND
  have m_fresh := has_n_fresh (P := P) (w := w) (mg := mg) (base := base) D_Names_fresh ND
  have m_inst := has_n_instead D_Names_instead_of ND m_fresh
  have h_lparts := has_law_parts (P := P) (w := w) (base := base) D_law_parts T
  have h_lbh := has_law_bound_here (P := P) (w := w) (base := base) D_law_bound_here T
  have h_lown := has_law_own (P := P) (w := w) (base := base) D_law_own T
  have h_pfree := has_pfree D_pfree T h_inner h_own h_args
  have h_free := has_free1 D_free T h_check h_pfree
  have h_vin := has_pvars D_variables_in T h_inner h_own h_args
  have h_item := has_with_item (P := P) (w := w) (base := base) D_with_item
  have h_with := has_with_inner D_with_inner T S h_item
  have h_wown := has_with_own D_with_own S h_item
  have h_wargs := has_with_args D_with_arguments S h_item
  have h_ren := has_renamed D_renamed T ND h_inner h_own h_args h_with h_wown h_wargs m_inst
  have h_apart := has_apart D_apart gC_Names (mk_init mC_Names m_init) h_free h_vin h_ren
  have h_lname := has_lname (P := P) (w := w) (base := base) D_law_is_name T
  have h_samen := has_same_names (P := P) (w := w) (base := base) D_law_same_names T
  have h_allb := has_all_bound D_law_all_bound T h_lparts h_lbh
  have h_same := has_same D_law_same T h_lparts h_lbh h_lown h_samen
  have h_lfree := has_law_free D_law_free T h_lparts h_lbh h_lown
  have h_eq := has_equalD (P := P) (w := w) (base := base) D_law_equal D_law_all_equal T
  exact ok_law F_law T h_numbers h_draw h_names (h_form 6) h_apart (h_allb 40) (h_same 40) h_lname (h_lfree 40) h_eq
end SaysoV
open PySem PySem.W PySem.Calls PyProof.Rows
set_option maxHeartbeats 0 in
theorem PySem.Challenge.cw_sayso_k21_bound_variables_are_told_apart_holds : PySem.Challenge.rw_sayso_k21_bound_variables_are_told_apart.Holds := by
  w_on; o_law
  refine HandSHeadRun.head_any (r := OpenLaw.row PySem.Challenge.rw_sayso_k21_bound_variables_are_told_apart) (q := view (OpenLaw.row PySem.Challenge.rw_sayso_k21_bound_variables_are_told_apart).prog [81]) (H := SaysoV.hk) (ob := SaysoV.ob) (M := 4000) (loose := SaysoV.looseN) (d := HandSHeadRun.topDef (OpenLaw.row PySem.Challenge.rw_sayso_k21_bound_variables_are_told_apart).prog 81) (kwd := []) SaysoV.ob_eq
    (by kernel_rfl) (fun s => by kernel_rfl) SaysoV.run (by kernel_rfl) (by kernel_rfl) (by kernel_rfl) (by rfl) (by first | assumption | decide +kernel) (by decide +kernel) ⟨rfl, rfl, rfl, rfl, rfl, by decide +kernel⟩ ?hw ?hc
  case hw => w_witness2
  case hc =>
    refine L2.walk_ofE (l := PySem.Challenge.rw_sayso_k21_bound_variables_are_told_apart) (n := 63) (k := 50) (x := "script") (CX := L2.CX0) rfl (by decide) (by kernel_rfl) ⟨rfl, by decide, by decide⟩ ?F (fun _ _ _ _ z => z)
    intro w mg fa h Y G hmg0
    obtain ⟨K, KX, c⟩ := Y
    have hmg : mg ("law" : PySem.Str) = some (.ref fa) := by
      have e : (HandSHeadRun.topDef (OpenLaw.row PySem.Challenge.rw_sayso_k21_bound_variables_are_told_apart).prog 81).name = ("law" : PySem.Str) := by kernel_rfl
      rw [← e]
      exact hmg0
    obtain ⟨fd, hb, hF⟩ := SaysoV.facts (P := (PySem.Challenge.rw_sayso_k21_bound_variables_are_told_apart).prog) (w := w) KX G hmg c
    exact ⟨K, fd, SaysoV.spLaw K, KX, hb, fun H a ns hl _ hS => ⟨a, ns, rfl, hS, hl, fun _ => rfl⟩, hF⟩
