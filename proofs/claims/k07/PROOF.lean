import PyProof.Rows.All
import Wide.All
import OpenK.AllK
import Wide.FinOn
import KE.KExcIs
import HandS.ForMost
import HandS.ForExc
import HandS.ExcIs
import HandS.ExcInit
import HandS.ExcValue
import HandS.IsInst
import HandS.Walk
import PySem.Challenge.RW_endsum_k07_refusals_apart
set_option Elab.async false
set_option linter.all false
set_option maxRecDepth 100000
namespace Toy
open PySem L2
def top (i : Nat) : Stmt := PySem.Challenge.pw_endsum_k07_refusals_apart.main.body.getD i (.Pass ⟨0, 0, 0, 0⟩)
abbrev sSrc : Stmt := top 19
abbrev sNext : Stmt := top 20
abbrev sOne : Stmt := top 21
/-! ### draws: a source of numbers -/
/-- at p stands a source from which at most n have been mixed -/
def SrcAt (H : Hp) (p : Addr) (n : Nat) : Prop := ∃ a b c : Int, H p = some (.lst [.int a, .int b, .int c]) ∧ 0 ≤ b ∧ b < 2147483647 ∧ 0 ≤ c ∧ c ≤ (n : Int)
/-- all that was tracked, but p, is as it was -/
def Off (p : Addr) (H H' : Hp) : Prop := ∀ b o, H b = some o → b ≠ p → H' b = some o
theorem Off.refl (p : Addr) (H : Hp) : Off p H H := fun _ _ h _ => h
theorem Off.trans {p : Addr} {H H1 H2 : Hp} (a : Off p H H1) (b : Off p H1 H2) : Off p H H2 := fun c o h n => b c o (a c o h n) n
theorem Off.upd {p : Addr} {H : Hp} {o : HO} : Off p H (upd H p o) := fun _ _ h n => (upd_ne n).trans h
theorem Off.new {p q : Addr} {H H1 : Hp} {o : HO} (a : Off p H H1) (n : H1 q = none) : Off p H (L2.upd H1 q o) := fun b u h nb => by
  have z := a b u h nb
  exact (upd_ne (ne_of_none z n)).trans z
theorem same_new {H : Hp} {p : Addr} {o : HO} (h : H p = none) : Same H (upd H p o) := fun b x e => by
  rw [upd_ne (ne_of_none e h)]
  exact e
theorem Same.off {p : Addr} {H H' : Hp} (h : Same H H') : Off p H H' := fun b o e _ => h b o e
def spSrc : Sp := fun vs H Q _ => ∃ c : Int, vs = [.int c] ∧ ∀ p H', H p = none → SrcAt H' p 0 → Same H H' → Q (.ref p) H'
def spNext : Sp := fun vs H Q _ => ∃ (p : Addr) (m : Int) (n : Nat), vs = [.ref p, .int m] ∧ SrcAt H p n ∧ 1 ≤ m ∧ m ≤ 1000000 ∧ n ≤ 100000 ∧
  ∀ r H', 0 ≤ r → r < m → SrcAt H' p (n + 1) → Off p H H' → Q (.int r) H'
def spOne : Sp := fun vs H Q _ => ∃ (p q : Addr) (xs : List V) (n : Nat), vs = [.ref p, .ref q] ∧ SrcAt H p n ∧ n ≤ 100000 ∧ H q = some (.lst xs) ∧ q ≠ p ∧ 1 ≤ xs.length ∧ xs.length ≤ 1000 ∧
  ∀ x H', x ∈ xs → SrcAt H' p (n + 1) → Off p H H' → Q x H'
def primes : List V := [.int 2147483647, .int 2147483629, .int 2147483587, .int 2147483579, .int 2147483563, .int 2147483549, .int 2147483543]
theorem prime_at (i : Int) (h0 : 0 ≤ i) (h7 : i < 7) : ∃ v : Int, atI primes i = some (.int v) ∧ 1000 < v ∧ v ≤ 2147483647 := by
  obtain ⟨j, rfl⟩ := Int.eq_ofNat_of_zero_le h0
  have hj : j < 7 := by omega
  match j, hj with
  | 0, _ => exact ⟨_, rfl, by decide, by decide⟩
  | 1, _ => exact ⟨_, rfl, by decide, by decide⟩
  | 2, _ => exact ⟨_, rfl, by decide, by decide⟩
  | 3, _ => exact ⟨_, rfl, by decide, by decide⟩
  | 4, _ => exact ⟨_, rfl, by decide, by decide⟩
  | 5, _ => exact ⟨_, rfl, by decide, by decide⟩
  | 6, _ => exact ⟨_, rfl, by decide, by decide⟩
section
variable {P : Program} {w : World} {K : PySem.W.Frag} {mg : Str → Option Value} {base : Heap}
theorem scSrc : FnScope ["_law_cell"] ["_law_cell"] (defScope sSrc) := ⟨rfl, rfl, rfl, by decide +kernel, rfl, by decide +kernel, by decide +kernel⟩
theorem ok_src {f : Addr} {fd : FuncData} (F : Fun K "_law_source_of" "_law_source_of" sSrc f fd) (mi : mg "int" = none) : FnOk P w K mg base CX0 1 f fd ["_law_cell"] spSrc := by
  refine F.ok scSrc (fun vs H Q E h => ?_) (fun cdv A outer s H vs Q E hr h => ?_)
  · obtain ⟨c, rfl, _⟩ := h
    rfl
  · obtain ⟨c, rfl, k⟩ := h
    refine ⟨_, pss_one (ps_ret (pe_lst (pa_cons (pe_op op_mul (pv 0) (pe_callTy call_int1 (by rfl) mi (by decide +kernel) (pa_cons (pe_cmpR op_ge (pv 0) (pe_op op_pow pe_int pe_int) (nomark _)) pa_nil)))
      (pa_cons (pe_op op_mod (pv 0) pe_int) (pa_cons pe_int pa_nil))))), ?_⟩
    refine ⟨_, rfl, _, rfl, _, _, rfl, rfl, ⟨by decide, by decide, by decide⟩, _, _, rfl, rfl, .inr ⟨_, rfl, _, _, rfl, rfl, .inr ?_, ?_⟩⟩
    · split <;> decide
    · refine ⟨_, rfl, _, _, rfl, rfl, (by show (0 : Int) < 2147483647; decide), by show 3 ≤ sizeLine; decide, fun p hp => ?_⟩
      refine k p _ hp ⟨_, _, _, upd_same, ?_, ?_, by decide, by decide⟩ (same_new hp)
      · omega
      · omega
theorem scNext : FnScope ["_law_source", "_law_many", "_law_found", "_law_prime", "_law_figure"] ["_law_source", "_law_many"] (defScope sNext) := ⟨rfl, rfl, rfl, by decide +kernel, rfl, by decide +kernel, by decide +kernel⟩
theorem ix0 {xs : List V} {v : V} : atI (v :: xs) 0 = some v := atI_nat (j := 0) rfl
theorem ix1 {xs : List V} {u v : V} : atI (u :: v :: xs) 1 = some v := atI_nat (j := 1) rfl
theorem ix2 {xs : List V} {u v y : V} : atI (u :: v :: y :: xs) 2 = some y := atI_nat (j := 2) rfl
theorem ok_next {f : Addr} {fd : FuncData} (F : Fun K "_law_next" "_law_next" sNext f fd) : FnOk P w K mg base CX0 1 f fd ["_law_source", "_law_many"] spNext := by
  refine F.ok scNext (fun vs H Q E h => ?_) (fun cdv A outer s H vs Q E hr h => ?_)
  · obtain ⟨p, m, n, rfl, _⟩ := h
    rfl
  · obtain ⟨p, m, n, rfl, ⟨a, b, c, hp, b0, b1, c0, c1⟩, m0, m1, hn, k⟩ := h
    refine ⟨_, pss_cons (ps_if (pt_cmpR op_gt (pe_ix ix_list (pv 0) pe_int (fun _ _ => rfl)) pe_int (nomark _))
        (pss_cons (ps_set (i := 2) scNext.nd rfl (Or.inl rfl) (pe_op op_mod (pe_ix ix_list (pv 0) pe_int (fun _ _ => rfl)) (pv 1)))
        (pss_cons (ps_asg (pe_op op_fdiv (pe_ix ix_list (pv 0) pe_int (fun _ _ => rfl)) (pv 1)) (pg_sub (pv 0) pe_int set_list))
        (pss_one (ps_ret (pv 2))))) pss_nil)
      (pss_cons (ps_asg (pe_op op_add (pe_ix ix_list (pv 0) pe_int (fun _ _ => rfl)) pe_int) (pg_sub (pv 0) pe_int set_list))
      (pss_cons (ps_set (i := 3) scNext.nd rfl (Or.inl rfl) (pe_ix ix_list (pe_lst (pa_cons pe_int (pa_cons pe_int (pa_cons pe_int (pa_cons pe_int (pa_cons pe_int (pa_cons pe_int (pa_cons pe_int pa_nil)))))))) (pe_op op_mod (pe_ix ix_list (pv 0) pe_int (fun _ _ => rfl)) pe_int) (fun _ _ => rfl)))
      (pss_cons (ps_set (i := 4) scNext.nd rfl (Or.inl rfl) (pe_op op_mod (pe_op op_pow (pe_op op_add (pe_op op_add (pe_ix ix_list (pv 0) pe_int (fun _ _ => rfl)) (pe_op op_mul pe_int (pe_ix ix_list (pv 0) pe_int (fun _ _ => rfl)))) pe_int) pe_int) (pv 3)))
      (pss_cons (ps_set (i := 4) scNext.nd rfl (Or.inl rfl) (pe_op op_mod (pe_op op_mul (pe_op op_add (pv 4) (pe_ix ix_list (pv 0) pe_int (fun _ _ => rfl))) (pe_op op_add (pe_op op_fdiv (pv 4) pe_int) pe_int)) (pv 3)))
      (pss_one (ps_ret (pe_op op_mod (pe_op op_fdiv (pv 4) pe_int) (pv 1)))))))), ?_⟩
    -- if source[0] > 0
    refine ⟨_, rfl, p, _, _, _, rfl, rfl, SqL.of hp, ix0, _, _, rfl, rfl, _, rfl, ite2 (fun ha => ?_) (fun ha => ?_)⟩
    · have hm : (0 : Int) < m := by omega
      refine ⟨_, rfl, p, _, _, _, rfl, rfl, SqL.of hp, ix0, _, rfl, _, _, rfl, rfl, hm, ?_⟩
      refine ⟨_, rfl, p, _, _, _, rfl, rfl, SqL.of hp, ix0, _, rfl, _, _, rfl, rfl, ⟨hm, by omega⟩, ?_⟩
      refine ⟨_, rfl, p, _, _, 0, rfl, rfl, hp, rfl, ?_⟩
      refine ⟨_, rfl, ?_⟩
      exact k _ _ (Int.emod_nonneg _ (by omega)) (Int.emod_lt_of_pos _ hm) ⟨_, _, _, upd_same, b0, b1, c0, by omega⟩ Off.upd
    · refine ⟨_, rfl, p, _, _, _, rfl, rfl, SqL.of hp, ix2, _, _, rfl, rfl, ?_⟩
      refine ⟨_, rfl, p, _, _, 2, rfl, rfl, hp, rfl, ?_⟩
      have h1 : upd H p (.lst [.int a, .int b, .int (c + 1)]) p = some (.lst [.int a, .int b, .int (c + 1)]) := upd_same
      refine ⟨by show 7 ≤ sizeLine; decide, fun q hq => ?_⟩
      have npq : p ≠ q := ne_of_none h1 hq
      have h2 : upd (upd H p (.lst [.int a, .int b, .int (c + 1)])) q (.lst primes) p = some (.lst [.int a, .int b, .int (c + 1)]) := (upd_ne npq).trans h1
      obtain ⟨v, hv, v0, v1⟩ := prime_at ((c + 1) % 7) (Int.emod_nonneg _ (by decide)) (Int.emod_lt_of_pos _ (by decide))
      refine ⟨_, rfl, p, _, _, _, rfl, rfl, SqL.of h2, ix2, _, _, rfl, rfl, (by show (0 : Int) < 7; decide), ?_⟩
      refine ⟨q, _, _, _, rfl, rfl, SqL.of upd_same, hv, ?_⟩
      refine ⟨_, rfl, p, _, _, _, rfl, rfl, SqL.of h2, ix1, _, rfl, p, _, _, _, rfl, rfl, SqL.of h2, ix2, _, _, rfl, rfl, .inl ⟨by decide, by decide⟩, _, _, rfl, rfl, _, _, rfl, rfl, _, _, rfl, rfl, ⟨by decide, by decide, by omega⟩, _, rfl, _, _, rfl, rfl, (by show (0 : Int) < v; omega), ?_⟩
      generalize hx : (b + 7919 * (c + 1) + 1) ^ (5 : Int).toNat % v = x
      have x0 : 0 ≤ x := by rw [← hx]; exact Int.emod_nonneg _ (by omega)
      have x1 : x < v := by rw [← hx]; exact Int.emod_lt_of_pos _ (by omega)
      refine ⟨_, rfl, _, rfl, p, _, _, _, rfl, rfl, SqL.of h2, ix2, _, _, rfl, rfl, _, rfl, _, _, rfl, rfl, ⟨by decide, by decide⟩, _, _, rfl, rfl, _, _, rfl, rfl, .inl ⟨by omega, by omega⟩, _, rfl, _, _, rfl, rfl, (by show (0 : Int) < v; omega), ?_⟩
      refine ⟨_, rfl, _, _, rfl, rfl, ⟨by decide, by decide⟩, _, rfl, _, _, rfl, rfl, (by show (0 : Int) < m; omega), ?_⟩
      exact k _ _ (Int.emod_nonneg _ (by omega)) (Int.emod_lt_of_pos _ (by omega)) ⟨_, _, _, h2, b0, b1, by omega, by omega⟩ (Off.upd.new hq)
theorem scOne : FnScope ["_law_source", "_law_some"] ["_law_source", "_law_some"] (defScope sOne) := ⟨rfl, rfl, rfl, by decide +kernel, rfl, by decide +kernel, by decide +kernel⟩
theorem ok_one {f fN : Addr} {fd fdN : FuncData} (F : Fun K "_law_one" "_law_one" sOne f fd) (FN : Fun K "_law_next" "_law_next" sNext fN fdN) (bN : Binds K fdN ["_law_source", "_law_many"] []) (gN : mg "_law_next" = some (.ref fN)) (ml : mg "len" = none) :
    FnOk P w K mg base CX0 2 f fd ["_law_source", "_law_some"] spOne := by
  have GN : FnOk P w K mg base CX0 1 fN fdN ["_law_source", "_law_many"] spNext := ok_next FN
  refine F.ok scOne (fun vs H Q E h => ?_) (fun cdv A outer s H vs Q E hr h => ?_)
  · obtain ⟨p, q, xs, n, rfl, _⟩ := h
    rfl
  · obtain ⟨p, q, xs, n, rfl, hp, hn, hq, nqp, l1, l2, k⟩ := h
    refine ⟨_, pss_one (ps_ret (pe_ix ix_list (pv 1) (pe_call GN hr rfl gN FN.kp bN .nil pass0 (pa_cons (pv 0) (pa_cons (pe_callB call_len_seq (by rfl) ml PySem.boot_len (pa_cons (pv 1) pa_nil)) pa_nil))) (fun _ _ => rfl))), ?_⟩
    refine ⟨_, rfl, _, rfl, _, rfl, q, xs, rfl, .inl (SqL.of hq), p, (xs.length : Int), n, rfl, hp, by omega, by omega, hn, fun r H' r0 r1 hp' off => ?_⟩
    obtain ⟨j, rfl⟩ := Int.eq_ofNat_of_zero_le r0
    have hj : j < xs.length := by omega
    refine ⟨q, xs, _, xs[j], rfl, rfl, SqL.of (off q _ hq nqp), at_of rfl (List.getElem?_eq_getElem hj), ?_⟩
    exact k _ _ (List.getElem_mem hj) hp' off
end
end Toy
set_option Elab.async false
set_option linter.all false
set_option maxRecDepth 100000
set_option maxHeartbeats 2000000
namespace Toy
open PySem PySem.Spec PyProof.Rows L2
/-! ### an exception of an own class as a value, with or without fields -/
/-- an exception of the class at C stands at a: without fields, or with these -/
inductive ExV (H : Hp) (a C : Addr) : Option (List (Str × V)) → Prop where
  | plain (e : H a = some (ExO (.ref C) a)) : ExV H a C none
  | own {dx : Addr} {fs : List (Str × V)} (e : H a = some (exo a C (some dx))) (d : H dx = some (exd dx fs)) : ExV H a C (some fs)
theorem ExV.same {H H' : Hp} {a C : Addr} {d : Option (List (Str × V))} (x : ExV H a C d) (s : Same H H') : ExV H' a C d := by
  cases x with
  | plain e => exact .plain (s _ _ e)
  | own e d => exact .own (s _ _ e) (s _ _ d)
theorem zc_inst {h : Heap} {a C : Addr} {oe : Obj} {vs : Array Value} (e : h.get? a = some oe) (z : Zc (.ref C) none oe) (d : oe.data = .fields vs) : PySem.W.InstAt h a oe C none := by
  obtain ⟨oc, od, oda, osl⟩ := oe
  obtain ⟨z1, z2⟩ := z
  simp only at z1 z2 d
  subst z1 z2 d
  exact ⟨e, rfl, rfl, trivial⟩
section
variable {X : Cx} {pins : List (Addr × Obj)} {σ : L2.St} {H : Hp} {s : Shared} {a C : Addr}
theorem ExV.inst {d : Option (List (Str × V))} (x : ExV H a C d) (I : Inv X pins σ H s) : ∃ ox od, PySem.W.InstAt s.heap a ox C od := by
  cases x with
  | plain e =>
    obtain ⟨⟨oe, vs, ho, hz, hd, _⟩, _⟩ := I.hok a _ e
    exact ⟨oe, none, zc_inst ho hz hd⟩
  | @own dx fs e d =>
    obtain ⟨t1, ho⟩ := exo_at I.hok e
    obtain ⟨mA, hns, _⟩ := exd_at I.hok d
    obtain ⟨od, hod, _⟩ := lookIn_ns hns
    exact ⟨_, some od, ⟨ho, rfl, rfl, hod⟩⟩
/-- isinstance(e, c) -/
def rIsx (K : PySem.W.Frag) : List V → Hp → VK → Prop := fun xs H Q => ∃ (a C : Addr) (d : Option (List (Str × V))) (c : V) (cv : Value) (b : Bool), xs = [.ref a, c] ∧ ExV H a C d ∧ ExcC K C ∧ ClsV c cv ∧ PySem.W.kitOne K (.ref C) cv = some b ∧ Q (.bl b) H
theorem call_isx : CallR X (.builtin "isinstance") (rIsx X.K) := by
  intro pins s σ H xs us Q I r h
  obtain ⟨a, C, d, c, cv, b, rfl, ev, cc, kc, e, q⟩ := h
  obtain ⟨u1, u2, rfl, r1, r2⟩ := vals2 r
  have e2 := kc.eq r2
  subst e2
  obtain rfl : u1 = Value.ref a := r1
  obtain ⟨ox, od, J⟩ := ev.inst I
  obtain ⟨cd, hcd, _⟩ := PySem.W.any_some cc.hd
  have Z := PySem.W.kitx_exc (K := X.K) (x := a) (C := C) (ox := ox) (od := od) (by rw [hcd]; rfl) cc.hg cc.hk cc.hs cc.ha cc.hn cc.ht cc.hm
  exact PySem.W.kia_one Z I.kIn J e (by intro z; cases z) fun tk => ⟨.bl b, H, I.tok tk, rfl, q⟩
/-- e.f, a field of its own -/
def tExf (K : PySem.W.Frag) (f : Str) (te : TE) : TE := fun σ H Q => te σ H fun x H1 => ∃ (a C : Addr) (fs : List (Str × V)) (v : V), x = .ref a ∧ ExV H1 a C (some fs) ∧ ExcC K C ∧ PySem.W.findIn K (.ref C) f = some none ∧ fs.lookup f = some v ∧ Q v H1
theorem pe_exf {e : Expr} {te : TE} {f : Str} {pos : Pos} (he : PE X e te) (hb : attributeBase e f X.env (eval e X.env) = eval e X.env := by rfl) : PE X (.Attribute e f pos) (tExf X.K f te) := by
  refine ⟨fun pins s σ H Q I h => attr_of hb (thn (he.run pins s σ H _ I h) fun u s1 ⟨x, H1, I1, rx, hh⟩ => ?_)⟩
  obtain ⟨a, C, fs, v, rfl, ev, cc, hno, hl, q⟩ := hh
  obtain rfl : u = Value.ref a := rx
  cases ev with
  | @own dx fs ea ed =>
    obtain ⟨t1, ho⟩ := exo_at I1.hok ea
    obtain ⟨mA, hns, rel⟩ := exd_at I1.hok ed
    obtain ⟨od, hod, look⟩ := lookIn_ns hns
    have J : PySem.W.InstAt s1.heap a _ C (some od) := ⟨ho, rfl, rfl, hod⟩
    have rr := rel f
    rw [hl] at rr
    cases hm : mA f with
    | none =>
      rw [hm] at rr
      exact rr.elim
    | some y =>
      rw [hm] at rr
      have fo : PySem.W.findObj X.K C (some od) f = some (.value y) := PySem.W.findObj_own cc.hd hno rfl (by rw [look f, hm])
      exact PySem.HandSPX.exc_get I1.kIn J cc.hg cc.hk cc.hs fo (handed_of rr) ⟨v, H1, I1.tok _, rr, q⟩
/-- C(e, ..) as a value, C's own __init__ keeping sp -/
def tMkV (C : Addr) (sp : Sp) (ta : TA) : TE := fun σ H Q => ta σ H fun vs H1 => vs.length ≤ 1000 ∧ ∀ a, H1 a = none → sp (.ref a :: vs) (upd H1 a (exo a C none)) (fun v H2 => v = .non ∧ Q (.ref a) H2) (fun _ _ _ => False)
theorem pe_mkv {CXq : CXT} {x : Str} {fI : Addr} {k : Nat} {fd : FuncData} {ps : List Str} {sp : Sp} {ta : TA} {e : Expr} {es : List Expr} {p pos : Pos} (T : OexC X.K C) (iC : PySem.W.findIn X.K (.ref C) "__init__" = some (some (.ref fI))) (tI : PySem.W.typeIn X.K (.ref fI) = some (.type "function"))
    (F1 : FnOk X.prog X.w X.K X.mg X.base CXq k fI fd ps sp) (hr : Room (k + 1) X.A) (hb : Binds X.K fd ps []) (hx : Passes CXq X (fun _ _ _ => False)) (hm : X.mg x = some (.ref C)) (ha : PA X (e :: es) ta) (hg : Gl X x := by rfl)
    (hdb : (x == ("__debug__" : Str)) = false := by decide) (he : starEach (e :: es) X.env = (false, eval e X.env) :: starEach es X.env := by rfl) (hpl : (backTo pos (starEach es X.env)).any (·.1) = false := by rfl) :
    PE X (.Call (.Name x p) (e :: es) [] pos) (tMkV C sp ta) := by
  refine ⟨fun pins s σ H Q I h => ?_⟩
  obtain ⟨nm, qn, N, bs, bm, sn, sub, ab, col, dd, k0, k1, k2, k3, k5, hC, hbm⟩ := T.cls
  refine wpAny_Call_Name_kw (ld_glob I hg hm ?_ hdb)
  refine PySem.W.callWith_K (h₀ := X.base) I.ok.mod.kin T.kC (thn (ha.run pos pins s σ H _ I h) fun us s1 hh => ?_) he hpl
  obtain ⟨vs, H1, I1, r1, hz, q1⟩ := hh
  refine ⟨I1.kIn, ?_⟩
  show wpAny _ _ (call (.ref C) us) _ _ _
  obtain ⟨hp, g, dr, tk, os⟩ := s1
  have big : hp.objs.size ≤ hp.objs.size + 1 := by omega
  have free1 : H1 (hp.objs.size + 1) = none := I1.hok.fresh big
  have hsp := q1 (hp.objs.size + 1) free1
  have kept : ∀ b o, hp.get? b = some o → ((hp.push (PySem.W.kdv_tup us)).push (PySem.HandSPX.excO C hp.objs.size)).get? b = some o := fun b o z =>
    Heap.get?_push_of_some _ (Heap.get?_push_of_some _ z)
  have there : ((hp.push (PySem.W.kdv_tup us)).push (PySem.HandSPX.excO C hp.objs.size)).get? (hp.objs.size + 1) = some (PySem.HandSPX.excO C hp.objs.size) := by heap_get
  have I2 := I1.laid (t' := tk) (a := hp.objs.size + 1) (o := exo (hp.objs.size + 1) C none) kept big (exo_ok there)
  have r2 : Vals (V.ref (hp.objs.size + 1) :: vs) (Value.ref (hp.objs.size + 1) :: us) := .cons rfl r1
  have len2 : (Value.ref (hp.objs.size + 1) :: us).length = ps.length := by
    rw [← r2.length]
    exact F1.len _ _ _ _ hsp
  have uslen : us.length ≤ sizeLine := by
    rw [← Paired.length r1, sizeLine_eq]
    omega
  have bnd := hb ⟨(hp.push (PySem.W.kdv_tup us)).push (PySem.HandSPX.excO C hp.objs.size), g, dr, tk, os⟩ (Value.ref (hp.objs.size + 1) :: us) I2.kIn (by rw [List.append_nil]; exact len2)
  rw [List.append_nil] at bnd
  refine wpAny_call (PySem.HandSPX.call_own F.excBase_ValueError (fun Y => PySem.HandSPX.refsVE_contains Y bm hbm) (I1.kIn _ _ hC) (PySem.W.looks_findIn I1.kIn iC) (fun self => PySem.W.bind_fn I1.kIn self tI) uslen
    (codeAny_mono (F1.run _ X.stack _ _ _ _ _ _ (fun _ _ _ => False) (hr.make C us []) (I2.env0.make C us []) bnd r2 hsp) fun r s' hq => ?_))
  cases r with
  | error er => exact hx pins σ _ _ er s' I2 hq
  | ok fl =>
    cases fl with
    | ret u =>
      obtain ⟨v, H2, J, rv, ev, q⟩ := I2.after hq
      subst ev
      exact ⟨rv, .ref (hp.objs.size + 1), H2, J, rfl, q⟩
    | next => exact False.elim hq
    | brk => exact False.elim hq
    | cont => exact False.elim hq
end
/-- the promise of «self.f = v» as an exception's __init__ -/
def spExI (C : Addr) (f : Str) : Sp := fun vs H Q _ => ∃ (a : Addr) (v : V), vs = [.ref a, v] ∧ H a = some (exo a C none) ∧ ∀ dx, H dx = none → dx ≠ a → Q .non (upd (upd H dx (exd dx [(f, v)])) a (exo a C (some dx)))
theorem ok_exinit {P : Program} {w : World} {K : PySem.W.Frag} {mg : Str → Option Value} {base : Heap} {st : Stmt} {f q : Str} {fI C : Addr} {fd : FuncData} {p1 p2 p3 p4 : Pos} (hbody : defBody st = [.Assign [.Attribute (.Name "self" p1) f p2] (.Name f p3) p4])
    (S : FnScope ["self", f] ["self", f] (defScope st)) (v0 : (defScope st).names.lookup ("self" : Str) = some .local) (v1 : (defScope st).names.lookup f = some .local) (hf : (f == ("__debug__" : Str)) = false) (hf2 : (f == ("__classdict__" : Str)) = false)
    (F : Fun K "__init__" q st fI fd) (T : OexC K C) (hno : PySem.W.findIn K (.ref C) f = some none) : FnOk P w K mg base CX0 1 fI fd ["self", f] (spExI C f) := by
  refine F.ok S (fun vs H Q E h => ?_) (fun cdv A outer s H vs Q E hr h => ?_)
  · obtain ⟨a, v, rfl, _⟩ := h
    rfl
  · obtain ⟨a, v, rfl, ha, k⟩ := h
    rw [hbody]
    refine ⟨_, pss_one (ps_ost (pv 0 rfl (Or.inl v0)) (pv 1 rfl (Or.inl v1) hf hf2)), ?_⟩
    exact ⟨_, rfl, _, rfl, a, C, rfl, T, hno, .inl ⟨ha, fun dx n ne => k dx n ne⟩⟩
end Toy
set_option Elab.async false
set_option linter.all false
set_option maxRecDepth 100000
set_option maxHeartbeats 4000000
namespace Toy
open PySem PySem.Spec PyProof.Rows L2
abbrev sCls : Stmt := top 22
abbrev sLaw : Stmt := top 23
/-! ### what the top says of the classes -/
abbrev veMro : List Value := [.type "ValueError", .type "Exception", .type "BaseException", .type "object"]
structure CTxt (K : PySem.W.Frag) (mg : Str → Option Value) (c : Nat → Addr) (cE : Addr) (ix : Nat → Addr) : Prop where
  exc : ∀ i, i < 16 → ExcC K (c i)
  kit : ∀ i, i < 16 → ∀ j, j < 16 → PySem.W.kitOne K (.ref (c i)) (.ref (c j)) = some (decide (j = i))
  kitE : ∀ i, i < 16 → PySem.W.kitOne K (.ref (c i)) (.ref cE) = some true
  kitV : ∀ i, i < 16 → PySem.W.kitOne K (.ref (c i)) (.type "ValueError") = some true
  own : ∀ i, i < 11 → PySem.W.excIn K (c i) veMro "ValueError.__new__" = true
  kp : ∀ i, i < 16 → PySem.W.keepIn K (.ref (c i)) = true
  oex : ∀ i, i < 5 → OexC K (c (11 + i))
  ini : ∀ i, i < 5 → PySem.W.findIn K (.ref (c (11 + i))) "__init__" = some (some (.ref (ix i)))
  fun_ : ∀ i, i < 5 → PySem.W.typeIn K (.ref (ix i)) = some (.type "function")
  mE : mg "EndError" = some (.ref cE)
  mI : mg "isinstance" = none
  mV : mg "ValueError" = none
  m0 : mg "NoRenaming" = some (.ref (c 0))
  m1 : mg "NoMatch" = some (.ref (c 1))
  m2 : mg "TooMany" = some (.ref (c 2))
  m3 : mg "NoPairing" = some (.ref (c 3))
  m4 : mg "NoJoin" = some (.ref (c 4))
  m5 : mg "NoName" = some (.ref (c 5))
  m6 : mg "NoLeg" = some (.ref (c 6))
  m7 : mg "NoCounts" = some (.ref (c 7))
  m8 : mg "NoColours" = some (.ref (c 8))
  m9 : mg "NoNumbers" = some (.ref (c 9))
  m10 : mg "NoRow" = some (.ref (c 10))
  m11 : mg "NoStock" = some (.ref (c 11))
  m12 : mg "NoDrawing" = some (.ref (c 12))
  m13 : mg "NoWeights" = some (.ref (c 13))
  m14 : mg "NoText" = some (.ref (c 14))
  m15 : mg "NotThere" = some (.ref (c 15))
  n0 : PySem.W.findIn K (.ref (c 11)) "part" = some none
  n1 : PySem.W.findIn K (.ref (c 12)) "part" = some none
  n2 : PySem.W.findIn K (.ref (c 13)) "part" = some none
  n3 : PySem.W.findIn K (.ref (c 14)) "at" = some none
  n4 : PySem.W.findIn K (.ref (c 15)) "name" = some none
/-- which of the sixteen -/
def rowB (i : Nat) : List Bool := (List.range 16).map fun j => decide (j = i)
def spCls (c : Nat → Addr) : Sp := fun vs H Q _ => ∃ (a : Addr) (i : Nat) (d : Option (List (Str × V))), vs = [.ref a] ∧ i < 16 ∧ ExV H a (c i) d ∧
  ∀ p H', H p = none → Same H H' → H' p = some (.lst ((rowB i).map V.bl)) → Q (.ref p) H'
section
variable {P : Program} {w : World} {K : PySem.W.Frag} {mg : Str → Option Value} {base : Heap} {c ix : Nat → Addr} {cE : Addr}
theorem pe_gref {X : Cx} {x : Str} {a : Addr} {pos : Pos} (hg : Gl X x) (hm : X.mg x = some (.ref a)) (hd : (x == ("__debug__" : Str)) = false := by decide) : PE X (.Name x pos) (tC (.ref a)) := pe_glob (v := .ref a) hg hm rfl hd
theorem scCls : FnScope ["_law_found", "_law_kinds"] ["_law_found"] (defScope sCls) := ⟨rfl, rfl, rfl, by decide +kernel, rfl, by decide +kernel, by decide +kernel⟩
theorem ok_cls {f : Addr} {fd : FuncData} (F : Fun K "_law_classes" "_law_classes" sCls f fd) (T : CTxt K mg c cE ix) : FnOk P w K mg base CX0 1 f fd ["_law_found"] (spCls c) := by
  refine F.ok scCls (fun vs H Q E h => ?_) (fun cdv A outer s H vs Q E hr h => ?_)
  · obtain ⟨a, i, d, rfl, _⟩ := h
    rfl
  · obtain ⟨a, i, d, rfl, hi, ev, k⟩ := h
    refine ⟨_, pss_cons (ps_set (i := 1) scCls.nd rfl (Or.inl rfl) (pe_lst (pa_cons (pe_callB call_isx (by rfl) T.mI (by decide +kernel) (pa_cons (pv 0) (pa_cons (pe_gref (by rfl) T.m0) pa_nil))) (pa_cons (pe_callB call_isx (by rfl) T.mI (by decide +kernel) (pa_cons (pv 0) (pa_cons (pe_gref (by rfl) T.m1) pa_nil))) (pa_cons (pe_callB call_isx (by rfl) T.mI (by decide +kernel) (pa_cons (pv 0) (pa_cons (pe_gref (by rfl) T.m2) pa_nil))) pa_nil)))))
      (pss_cons (ps_set (i := 1) scCls.nd rfl (Or.inl rfl) (pe_op op_cat (pv 1) (pe_lst (pa_cons (pe_callB call_isx (by rfl) T.mI (by decide +kernel) (pa_cons (pv 0) (pa_cons (pe_gref (by rfl) T.m3) pa_nil))) (pa_cons (pe_callB call_isx (by rfl) T.mI (by decide +kernel) (pa_cons (pv 0) (pa_cons (pe_gref (by rfl) T.m4) pa_nil))) (pa_cons (pe_callB call_isx (by rfl) T.mI (by decide +kernel) (pa_cons (pv 0) (pa_cons (pe_gref (by rfl) T.m5) pa_nil))) pa_nil))))))
      (pss_cons (ps_set (i := 1) scCls.nd rfl (Or.inl rfl) (pe_op op_cat (pv 1) (pe_lst (pa_cons (pe_callB call_isx (by rfl) T.mI (by decide +kernel) (pa_cons (pv 0) (pa_cons (pe_gref (by rfl) T.m6) pa_nil))) (pa_cons (pe_callB call_isx (by rfl) T.mI (by decide +kernel) (pa_cons (pv 0) (pa_cons (pe_gref (by rfl) T.m7) pa_nil))) (pa_cons (pe_callB call_isx (by rfl) T.mI (by decide +kernel) (pa_cons (pv 0) (pa_cons (pe_gref (by rfl) T.m8) pa_nil))) pa_nil))))))
      (pss_cons (ps_set (i := 1) scCls.nd rfl (Or.inl rfl) (pe_op op_cat (pv 1) (pe_lst (pa_cons (pe_callB call_isx (by rfl) T.mI (by decide +kernel) (pa_cons (pv 0) (pa_cons (pe_gref (by rfl) T.m9) pa_nil))) (pa_cons (pe_callB call_isx (by rfl) T.mI (by decide +kernel) (pa_cons (pv 0) (pa_cons (pe_gref (by rfl) T.m10) pa_nil))) (pa_cons (pe_callB call_isx (by rfl) T.mI (by decide +kernel) (pa_cons (pv 0) (pa_cons (pe_gref (by rfl) T.m11) pa_nil))) pa_nil))))))
      (pss_cons (ps_set (i := 1) scCls.nd rfl (Or.inl rfl) (pe_op op_cat (pv 1) (pe_lst (pa_cons (pe_callB call_isx (by rfl) T.mI (by decide +kernel) (pa_cons (pv 0) (pa_cons (pe_gref (by rfl) T.m12) pa_nil))) (pa_cons (pe_callB call_isx (by rfl) T.mI (by decide +kernel) (pa_cons (pv 0) (pa_cons (pe_gref (by rfl) T.m13) pa_nil))) (pa_cons (pe_callB call_isx (by rfl) T.mI (by decide +kernel) (pa_cons (pv 0) (pa_cons (pe_gref (by rfl) T.m14) pa_nil))) pa_nil))))))
      (pss_one (ps_ret (pe_op op_cat (pv 1) (pe_lst (pa_cons (pe_callB call_isx (by rfl) T.mI (by decide +kernel) (pa_cons (pv 0) (pa_cons (pe_gref (by rfl) T.m15) pa_nil))) pa_nil))))))))), ?_⟩
    refine ⟨_, rfl, a, c i, d, _, _, _, rfl, ev, T.exc i hi, ClsV.own _, T.kit i hi 0 (by decide), ?_⟩
    refine ⟨_, rfl, a, c i, d, _, _, _, rfl, ev, T.exc i hi, ClsV.own _, T.kit i hi 1 (by decide), ?_⟩
    refine ⟨_, rfl, a, c i, d, _, _, _, rfl, ev, T.exc i hi, ClsV.own _, T.kit i hi 2 (by decide), ?_⟩
    refine ⟨by show 3 ≤ sizeLine; decide, fun p0 n0 => ?_⟩
    have s0 := same_new (o := .lst [.bl (decide (0 = i)), .bl (decide (1 = i)), .bl (decide (2 = i))]) n0
    refine ⟨_, rfl, ?_⟩
    refine ⟨_, rfl, a, c i, d, _, _, _, rfl, (ev.same s0), T.exc i hi, ClsV.own _, T.kit i hi 3 (by decide), ?_⟩
    refine ⟨_, rfl, a, c i, d, _, _, _, rfl, (ev.same s0), T.exc i hi, ClsV.own _, T.kit i hi 4 (by decide), ?_⟩
    refine ⟨_, rfl, a, c i, d, _, _, _, rfl, (ev.same s0), T.exc i hi, ClsV.own _, T.kit i hi 5 (by decide), ?_⟩
    refine ⟨by show 3 ≤ sizeLine; decide, fun q1 m1 => ?_⟩
    have t1 := s0.trans (same_new (o := .lst [.bl (decide (3 = i)), .bl (decide (4 = i)), .bl (decide (5 = i))]) m1)
    refine ⟨p0, q1, _, _, rfl, rfl, (same_new m1) _ _ upd_same, upd_same, by show 6 ≤ sizeLine; decide, fun p1 n1 => ?_⟩
    have s1 := t1.trans (same_new (o := .lst [.bl (decide (0 = i)), .bl (decide (1 = i)), .bl (decide (2 = i)), .bl (decide (3 = i)), .bl (decide (4 = i)), .bl (decide (5 = i))]) n1)
    refine ⟨_, rfl, ?_⟩
    refine ⟨_, rfl, a, c i, d, _, _, _, rfl, (ev.same s1), T.exc i hi, ClsV.own _, T.kit i hi 6 (by decide), ?_⟩
    refine ⟨_, rfl, a, c i, d, _, _, _, rfl, (ev.same s1), T.exc i hi, ClsV.own _, T.kit i hi 7 (by decide), ?_⟩
    refine ⟨_, rfl, a, c i, d, _, _, _, rfl, (ev.same s1), T.exc i hi, ClsV.own _, T.kit i hi 8 (by decide), ?_⟩
    refine ⟨by show 3 ≤ sizeLine; decide, fun q2 m2 => ?_⟩
    have t2 := s1.trans (same_new (o := .lst [.bl (decide (6 = i)), .bl (decide (7 = i)), .bl (decide (8 = i))]) m2)
    refine ⟨p1, q2, _, _, rfl, rfl, (same_new m2) _ _ upd_same, upd_same, by show 9 ≤ sizeLine; decide, fun p2 n2 => ?_⟩
    have s2 := t2.trans (same_new (o := .lst [.bl (decide (0 = i)), .bl (decide (1 = i)), .bl (decide (2 = i)), .bl (decide (3 = i)), .bl (decide (4 = i)), .bl (decide (5 = i)), .bl (decide (6 = i)), .bl (decide (7 = i)), .bl (decide (8 = i))]) n2)
    refine ⟨_, rfl, ?_⟩
    refine ⟨_, rfl, a, c i, d, _, _, _, rfl, (ev.same s2), T.exc i hi, ClsV.own _, T.kit i hi 9 (by decide), ?_⟩
    refine ⟨_, rfl, a, c i, d, _, _, _, rfl, (ev.same s2), T.exc i hi, ClsV.own _, T.kit i hi 10 (by decide), ?_⟩
    refine ⟨_, rfl, a, c i, d, _, _, _, rfl, (ev.same s2), T.exc i hi, ClsV.own _, T.kit i hi 11 (by decide), ?_⟩
    refine ⟨by show 3 ≤ sizeLine; decide, fun q3 m3 => ?_⟩
    have t3 := s2.trans (same_new (o := .lst [.bl (decide (9 = i)), .bl (decide (10 = i)), .bl (decide (11 = i))]) m3)
    refine ⟨p2, q3, _, _, rfl, rfl, (same_new m3) _ _ upd_same, upd_same, by show 12 ≤ sizeLine; decide, fun p3 n3 => ?_⟩
    have s3 := t3.trans (same_new (o := .lst [.bl (decide (0 = i)), .bl (decide (1 = i)), .bl (decide (2 = i)), .bl (decide (3 = i)), .bl (decide (4 = i)), .bl (decide (5 = i)), .bl (decide (6 = i)), .bl (decide (7 = i)), .bl (decide (8 = i)), .bl (decide (9 = i)), .bl (decide (10 = i)), .bl (decide (11 = i))]) n3)
    refine ⟨_, rfl, ?_⟩
    refine ⟨_, rfl, a, c i, d, _, _, _, rfl, (ev.same s3), T.exc i hi, ClsV.own _, T.kit i hi 12 (by decide), ?_⟩
    refine ⟨_, rfl, a, c i, d, _, _, _, rfl, (ev.same s3), T.exc i hi, ClsV.own _, T.kit i hi 13 (by decide), ?_⟩
    refine ⟨_, rfl, a, c i, d, _, _, _, rfl, (ev.same s3), T.exc i hi, ClsV.own _, T.kit i hi 14 (by decide), ?_⟩
    refine ⟨by show 3 ≤ sizeLine; decide, fun q4 m4 => ?_⟩
    have t4 := s3.trans (same_new (o := .lst [.bl (decide (12 = i)), .bl (decide (13 = i)), .bl (decide (14 = i))]) m4)
    refine ⟨p3, q4, _, _, rfl, rfl, (same_new m4) _ _ upd_same, upd_same, by show 15 ≤ sizeLine; decide, fun p4 n4 => ?_⟩
    have s4 := t4.trans (same_new (o := .lst [.bl (decide (0 = i)), .bl (decide (1 = i)), .bl (decide (2 = i)), .bl (decide (3 = i)), .bl (decide (4 = i)), .bl (decide (5 = i)), .bl (decide (6 = i)), .bl (decide (7 = i)), .bl (decide (8 = i)), .bl (decide (9 = i)), .bl (decide (10 = i)), .bl (decide (11 = i)), .bl (decide (12 = i)), .bl (decide (13 = i)), .bl (decide (14 = i))]) n4)
    refine ⟨_, rfl, ?_⟩
    refine ⟨_, rfl, a, c i, d, _, _, _, rfl, (ev.same s4), T.exc i hi, ClsV.own _, T.kit i hi 15 (by decide), ?_⟩
    refine ⟨by show 1 ≤ sizeLine; decide, fun q5 m5 => ?_⟩
    have t5 := s4.trans (same_new (o := .lst [.bl (decide (15 = i))]) m5)
    refine ⟨p4, q5, _, _, rfl, rfl, (same_new m5) _ _ upd_same, upd_same, by show 16 ≤ sizeLine; decide, fun p5 n5 => ?_⟩
    have s5 := t5.trans (same_new (o := .lst [.bl (decide (0 = i)), .bl (decide (1 = i)), .bl (decide (2 = i)), .bl (decide (3 = i)), .bl (decide (4 = i)), .bl (decide (5 = i)), .bl (decide (6 = i)), .bl (decide (7 = i)), .bl (decide (8 = i)), .bl (decide (9 = i)), .bl (decide (10 = i)), .bl (decide (11 = i)), .bl (decide (12 = i)), .bl (decide (13 = i)), .bl (decide (14 = i)), .bl (decide (15 = i))]) n5)
    exact k p5 _ (t5.free n5) s5 upd_same
end
end Toy
set_option Elab.async false
set_option linter.all false
set_option maxRecDepth 100000
set_option maxHeartbeats 4000000
namespace Toy
open PySem PySem.Spec PyProof.Rows L2
/-! ### the menu of values -/
abbrev menu : List V := [.str "kinds", .str "joins", .int 0, .int 7, .non, .str "stock", .str "a"]
theorem menu_is {v : V} (h : v ∈ menu) : scal v v = true ∧ ∃ d, (∀ K H, Dp K H v d) ∧ SeqAt.shaped (.list [d, d, d]) = true ∧ PyData.eqv (.list [d, d, d]) (.list [d, d, d]) = true := by
  have m : v = .str "kinds" ∨ v = .str "joins" ∨ v = .int 0 ∨ v = .int 7 ∨ v = .non ∨ v = .str "stock" ∨ v = .str "a" := by simpa using h
  rcases m with rfl | rfl | rfl | rfl | rfl | rfl | rfl
  · exact ⟨rfl, .str "kinds", fun _ _ => .str _, by decide +kernel, by decide +kernel⟩
  · exact ⟨rfl, .str "joins", fun _ _ => .str _, by decide +kernel, by decide +kernel⟩
  · exact ⟨rfl, .int 0, fun _ _ => .int _, by decide +kernel, by decide +kernel⟩
  · exact ⟨rfl, .int 7, fun _ _ => .int _, by decide +kernel, by decide +kernel⟩
  · exact ⟨rfl, .none, fun _ _ => .non, by decide +kernel, by decide +kernel⟩
  · exact ⟨rfl, .str "stock", fun _ _ => .str _, by decide +kernel, by decide +kernel⟩
  · exact ⟨rfl, .str "a", fun _ _ => .str _, by decide +kernel, by decide +kernel⟩
theorem dp_bools (K : PySem.W.Frag) (H : Hp) : ∀ l : List Bool, DpAll K H (l.map V.bl) (l.map PyData.bool)
  | [] => .nil
  | b :: r => .cons (.bl b) (dp_bools K H r)
theorem row_eq : ∀ i, i < 16 → SeqAt.shaped (.list ((rowB i).map PyData.bool)) = true ∧ PyData.eqv (.list ((rowB i).map PyData.bool)) (.list ((rowB i).map PyData.bool)) = true := by decide +kernel
theorem row_next (i k : Nat) (hk : k < 16) : (rowB i).take (k + 1) = (rowB i).take k ++ [decide (k = i)] := by
  have e : (rowB i)[k]? = some (decide (k = i)) := by
    unfold rowB
    rw [List.getElem?_map, List.getElem?_range hk]
    rfl
  rw [List.take_add_one, e]
  rfl
theorem row_len (i : Nat) : (rowB i).length = 16 := by
  unfold rowB
  rw [List.length_map, List.length_range]
/-- the list at p: sixteen exceptions, one of each class in its place -/
def All16 (H : Hp) (c : Nat → Addr) (xs : List V) : Prop := xs.length = 16 ∧ ∀ i, i < 16 → ∃ a d, xs[i]? = some (.ref a) ∧ ExV H a (c i) d
theorem SrcAt.same {H H' : Hp} {p : Addr} {n : Nat} (h : SrcAt H p n) (s : Same H H') : SrcAt H' p n := by
  obtain ⟨x, y, z, e, r⟩ := h
  exact ⟨x, y, z, s _ _ e, r⟩
theorem ex_new {H : Hp} {a C : Addr} (n : H a = none) : Same H (upd H a (ExO (.ref C) a)) ∧ ExV (upd H a (ExO (.ref C) a)) a C none := ⟨same_new n, .plain upd_same⟩
theorem ex_own {H : Hp} {a C dx : Addr} {f : Str} {v : V} (n : H a = none) (nd : upd H a (exo a C none) dx = none) (ne : dx ≠ a) :
    Same H (upd (upd (upd H a (exo a C none)) dx (exd dx [(f, v)])) a (exo a C (some dx))) ∧ ExV (upd (upd (upd H a (exo a C none)) dx (exd dx [(f, v)])) a (exo a C (some dx))) a C (some [(f, v)]) := by
  have nd2 : H dx = none := by
    rw [upd_ne ne] at nd
    exact nd
  refine ⟨fun b o e => ?_, .own upd_same (by rw [upd_ne ne, upd_same])⟩
  rw [upd_ne (ne_of_none e n), upd_ne (ne_of_none e nd2), upd_ne (ne_of_none e n)]
  exact e
def spLaw (K : PySem.W.Frag) : Sp := fun vs H Q _ => ∃ (a : Addr) (ns : List Int), vs = [.ref a] ∧ SqL K H a (ns.map V.int) ∧ ns.length ≤ 63 ∧ ∀ H', Q (.bl true) H'
section
variable {P : Program} {w : World} {K : PySem.W.Frag} {mg : Str → Option Value} {base : Heap} {c ix : Nat → Addr} {cE : Addr}
abbrev lawN : List Str := ["_law_script", "_law_cell", "_law_source", "_law_value_there", "_law_plain", "_law_valued", "_law_at", "_law_one_here", "_law_k"]
theorem scLaw : FnScope lawN ["_law_script"] (defScope sLaw) := ⟨rfl, rfl, rfl, by decide +kernel, rfl, by decide +kernel, by decide +kernel⟩
/-- the inits and how they bind -/
structure Inits (K : PySem.W.Frag) (mg : Str → Option Value) (P : Program) (w : World) (base : Heap) (c ix : Nat → Addr) : Prop where
  i0 : ∃ fd, FnOk P w K mg base CX0 1 (ix 0) fd ["self", "part"] (spExI (c 11) "part") ∧ Binds K fd ["self", "part"] []
  i1 : ∃ fd, FnOk P w K mg base CX0 1 (ix 1) fd ["self", "part"] (spExI (c 12) "part") ∧ Binds K fd ["self", "part"] []
  i2 : ∃ fd, FnOk P w K mg base CX0 1 (ix 2) fd ["self", "part"] (spExI (c 13) "part") ∧ Binds K fd ["self", "part"] []
  i3 : ∃ fd, FnOk P w K mg base CX0 1 (ix 3) fd ["self", "at"] (spExI (c 14) "at") ∧ Binds K fd ["self", "at"] []
  i4 : ∃ fd, FnOk P w K mg base CX0 1 (ix 4) fd ["self", "name"] (spExI (c 15) "name") ∧ Binds K fd ["self", "name"] []
theorem cut_ints (ns : List Int) (z : V) (h : z ∈ cutV (ns.map V.int) none (some 6)) : ∃ n : Int, z = .int n := by
  unfold cutV at h
  have h2 := List.mem_of_mem_drop (List.mem_of_mem_take h)
  rw [List.mem_map] at h2
  obtain ⟨n, _, e⟩ := h2
  exact ⟨n, e.symm⟩
theorem ok_law {f fS fO fC : Addr} {fd fdS fdO fdC : FuncData} (F : Fun K "law" "law" sLaw f fd) (T : CTxt K mg c cE ix) (N : Inits K mg P w base c ix)
    (GS : FnOk P w K mg base CX0 1 fS fdS ["_law_cell"] spSrc) (kS : PySem.W.keepIn K (.ref fS) = true) (bS : Binds K fdS ["_law_cell"] []) (gS : mg "_law_source_of" = some (.ref fS))
    (GO : FnOk P w K mg base CX0 2 fO fdO ["_law_source", "_law_some"] spOne) (kO : PySem.W.keepIn K (.ref fO) = true) (bO : Binds K fdO ["_law_source", "_law_some"] []) (gO : mg "_law_one" = some (.ref fO))
    (GC : FnOk P w K mg base CX0 1 fC fdC ["_law_found"] (spCls c)) (kC : PySem.W.keepIn K (.ref fC) = true) (bC : Binds K fdC ["_law_found"] []) (gC : mg "_law_classes" = some (.ref fC))
    (mEn : mg "enumerate" = none) (mR : mg "range" = none) : FnOk P w K mg base CX0 4 f fd ["_law_script"] (spLaw K) := by
  obtain ⟨fd0, G0, B0⟩ := N.i0
  obtain ⟨fd1, G1, B1⟩ := N.i1
  obtain ⟨fd2, G2, B2⟩ := N.i2
  obtain ⟨fd3, G3, B3⟩ := N.i3
  obtain ⟨fd4, G4, B4⟩ := N.i4
  refine F.ok scLaw (fun vs H Q E h => ?_) (fun cdv A outer s H vs Q E hr h => ?_)
  · obtain ⟨a, ns, rfl, _⟩ := h
    rfl
  · obtain ⟨a, ns, rfl, hS, hlen, k⟩ := h
    have hr1 : Room 2 (A.deeper (envOfC "law" (defScope sLaw) s.heap.objs.size f cdv)) := hr.mono (by decide)
    have hr0 : Room 1 (A.deeper (envOfC "law" (defScope sLaw) s.heap.objs.size f cdv)) := hr.mono (by decide)
    refine ⟨_, (pss_cons (ps_for PassesOwn.never rfl (pi_list (pe_op op_cat (pe_slice sl_list (pv 0) po_none (po_some pe_int)) (pe_lst (pa_cons pe_int (pa_cons pe_int pa_nil))))) (pg_name (i := 1) scLaw.nd rfl (Or.inl rfl)) (pss_cons (ps_set (i := 2) scLaw.nd rfl (Or.inl rfl) (pe_call GS hr0 (by rfl) gS kS bS .nil pass0 (pa_cons (pv 1) pa_nil)))
        (pss_cons (ps_set (i := 3) scLaw.nd rfl (Or.inl rfl) (pe_call GO hr1 (by rfl) gO kO bO .nil pass0 (pa_cons (pv 2) (pa_cons (pe_lst (pa_cons pe_str (pa_cons pe_str (pa_cons pe_int (pa_cons pe_int (pa_cons pe_non (pa_cons pe_str (pa_cons pe_str pa_nil)))))))) pa_nil))))
        (pss_cons (ps_set (i := 4) scLaw.nd rfl (Or.inl rfl) (pe_lst (pa_cons (pe_exc1 PySem.F.excBase_ValueError (T.own 0 (by decide)) T.m0 (T.kp 0 (by decide)) (by rfl) pe_str) (pa_cons (pe_exc1 PySem.F.excBase_ValueError (T.own 1 (by decide)) T.m1 (T.kp 1 (by decide)) (by rfl) pe_str) (pa_cons (pe_exc1 PySem.F.excBase_ValueError (T.own 2 (by decide)) T.m2 (T.kp 2 (by decide)) (by rfl) pe_str) (pa_cons (pe_exc1 PySem.F.excBase_ValueError (T.own 3 (by decide)) T.m3 (T.kp 3 (by decide)) (by rfl) pe_str) (pa_cons (pe_exc1 PySem.F.excBase_ValueError (T.own 4 (by decide)) T.m4 (T.kp 4 (by decide)) (by rfl) pe_str) (pa_cons (pe_exc1 PySem.F.excBase_ValueError (T.own 5 (by decide)) T.m5 (T.kp 5 (by decide)) (by rfl) pe_str) (pa_cons (pe_exc1 PySem.F.excBase_ValueError (T.own 6 (by decide)) T.m6 (T.kp 6 (by decide)) (by rfl) pe_str) pa_nil)))))))))
        (pss_cons (ps_set (i := 4) scLaw.nd rfl (Or.inl rfl) (pe_op op_cat (pv 4) (pe_lst (pa_cons (pe_exc1 PySem.F.excBase_ValueError (T.own 7 (by decide)) T.m7 (T.kp 7 (by decide)) (by rfl) pe_str) (pa_cons (pe_exc1 PySem.F.excBase_ValueError (T.own 8 (by decide)) T.m8 (T.kp 8 (by decide)) (by rfl) pe_str) (pa_cons (pe_exc1 PySem.F.excBase_ValueError (T.own 9 (by decide)) T.m9 (T.kp 9 (by decide)) (by rfl) pe_str) (pa_cons (pe_exc1 PySem.F.excBase_ValueError (T.own 10 (by decide)) T.m10 (T.kp 10 (by decide)) (by rfl) pe_str) pa_nil)))))))
        (pss_cons (ps_set (i := 5) scLaw.nd rfl (Or.inl rfl) (pe_lst (pa_cons (pe_mkv (C := c 11) (T.oex 0 (by decide)) (T.ini 0 (by decide)) (T.fun_ 0 (by decide)) G0 hr1 B0 pass0 T.m11 (pa_cons (pv 3) pa_nil)) (pa_cons (pe_mkv (C := c 12) (T.oex 1 (by decide)) (T.ini 1 (by decide)) (T.fun_ 1 (by decide)) G1 hr1 B1 pass0 T.m12 (pa_cons (pv 3) pa_nil)) (pa_cons (pe_mkv (C := c 13) (T.oex 2 (by decide)) (T.ini 2 (by decide)) (T.fun_ 2 (by decide)) G2 hr1 B2 pass0 T.m13 (pa_cons (pv 3) pa_nil)) pa_nil)))))
        (pss_cons (ps_set (i := 5) scLaw.nd rfl (Or.inl rfl) (pe_op op_cat (pv 5) (pe_lst (pa_cons (pe_mkv (C := c 14) (T.oex 3 (by decide)) (T.ini 3 (by decide)) (T.fun_ 3 (by decide)) G3 hr1 B3 pass0 T.m14 (pa_cons (pv 3) pa_nil)) (pa_cons (pe_mkv (C := c 15) (T.oex 4 (by decide)) (T.ini 4 (by decide)) (T.fun_ 4 (by decide)) G4 hr1 B4 pass0 T.m15 (pa_cons (pv 3) pa_nil)) pa_nil)))))
        (pss_cons (ps_for PassesOwn.never rfl (pi_enum (by rfl) mEn (pa_cons (pe_op op_cat (pv 4) (pv 5)) pa_nil)) (pg_tup rfl (pgs_cons (pg_name (i := 6) scLaw.nd rfl (Or.inr rfl)) (pgs_cons (pg_name (i := 7) scLaw.nd rfl (Or.inl rfl)) pgs_nil))) (pss_cons (ps_if (pt_cmpR (op_neD hr.units) (pe_call GC hr0 (by rfl) gC kC bC .nil pass0 (pa_cons (pv 7) pa_nil)) (pe_lc  (own := [("_law_k", 8)]) (g := gName 8) (tt := tYes) rfl scLaw.nd (pi_range1 (by rfl) mR (pa_cons pe_int pa_nil)) (blkOk_by (N := lawN) (sc := defScope sLaw) (by decide +kernel)) (fun _ _ _ _ _ => pg_name (i := 8) scLaw.nd rfl (Or.inl rfl)) (fun _ _ _ _ _ => pts_nil) (fun _ _ _ _ _ => pe_cmpR op_eq (pv 8) (pv 6) (nomark _))) (nomark _)) (pss_one (ps_ret pe_bl)) pss_nil)
        (pss_one (ps_if (PW.pt (pw_or (pt_not (pt_val (pe_callB call_isx (by rfl) T.mI (by decide +kernel) (pa_cons (pv 7) (pa_cons (pe_gref (by rfl) T.mE) pa_nil))))) (pw_or1 (pt_not (pt_val (pe_callB call_isx (by rfl) T.mI (by decide +kernel) (pa_cons (pv 7) (pa_cons (pe_bltn (v := .ty "ValueError") (by rfl) T.mV (by decide +kernel) rfl) pa_nil)))))))) (pss_one (ps_ret pe_bl)) pss_nil))))
        (pss_cons (ps_if (pt_cmpR (op_neD hr.units) (pe_lc (te := tExf K "part" (tVar 7)) (own := [("_law_one_here", 7)]) (g := gName 7) (tt := tYes) rfl scLaw.nd (pi_list (pe_slice sl_list (pv 5) po_none (po_some pe_int))) (blkOk_by (N := lawN) (sc := defScope sLaw) (by decide +kernel)) (fun _ _ _ _ _ => pg_name (i := 7) scLaw.nd rfl (Or.inl rfl)) (fun _ _ _ _ _ => pts_nil) (fun _ _ _ _ _ => (by exact pe_exf (pv 7)))) (pe_op op_rep (pe_lst (pa_cons (pv 3) pa_nil)) pe_int) (nomark _)) (pss_one (ps_ret pe_bl)) pss_nil)
        (pss_one (ps_if (PW.pt (pw_or (pt_cmpR op_ne (pe_exf (pe_ix ix_list (pv 5) pe_int (fun _ _ => rfl))) (pv 3) (nomark _)) (pw_or1 (pt_cmpR op_ne (pe_exf (pe_ix ix_list (pv 5) pe_int (fun _ _ => rfl))) (pv 3) (nomark _))))) (pss_one (ps_ret pe_bl)) pss_nil)))))))))))
        (pss_one (ps_ret pe_bl))), ?_⟩
    have hcut : (cutV (ns.map V.int) none (some 6)).length ≤ 63 := Nat.le_trans (cutV_length _ _ _) (by rw [List.length_map]; exact hlen)
    have hints : ∀ z ∈ cutV (ns.map V.int) none (some 6) ++ [V.int 0, V.int 1], ∃ n : Int, z = .int n := fun z hz => by
      rcases List.mem_append.mp hz with q | q
      · exact cut_ints ns z q
      · have q2 : z = .int 0 ∨ z = .int 1 := by simpa using q
        rcases q2 with rfl | rfl
        · exact ⟨0, rfl⟩
        · exact ⟨1, rfl⟩
    refine ⟨_, rfl, 6, rfl, a, ns.map V.int, rfl, hS, fun p0 n0 => ?_⟩
    refine ⟨by show 2 ≤ sizeLine; decide, fun p1 n1 => ?_⟩
    refine ⟨p0, p1, _, _, rfl, rfl, (same_new n1) _ _ upd_same, upd_same, ?_, fun L nL => ?_⟩
    · rw [sizeLine_eq]
      show (cutV (ns.map V.int) none (some 6)).length + 2 ≤ 16777216
      omega
    generalize cutV (ns.map V.int) none (some 6) ++ [V.int 0, V.int 1] = XS at hints ⊢
    refine ⟨L, rfl, ⟨_, SqL.of upd_same⟩, for_list (K := K) (a := L) (xs := XS) (fun i σ H' => (∃ y1 y2 y3 y4 y5 y6 y7 y8, σ = [some (V.ref a), y1, y2, y3, y4, y5, y6, y7, y8]) ∧ H' L = some (.lst XS))
      ⟨⟨_, _, _, _, _, _, _, _, rfl⟩, upd_same⟩ (fun i σ H' _ h => SqL.of h.2) ?_ ?_⟩
    · rintro i0 y σ H1 hy ⟨⟨y1, y2, y3, y4, y5, y6, y7, y8, rfl⟩, hL⟩
      obtain ⟨z, rfl⟩ := hints y (List.mem_of_getElem? hy)
      refine ⟨_, rfl, z, rfl, fun p H2 np hp s2 => ?_⟩
      refine ⟨_, rfl, by show 7 ≤ sizeLine; decide, fun q nq => ?_⟩
      have nqp : q ≠ p := by
        obtain ⟨_, _, _, hp', _⟩ := hp
        exact (ne_of_none hp' nq).symm
      refine ⟨p, q, menu, 0, rfl, hp.same (same_new nq), by omega, upd_same, nqp, by decide, by decide, fun v H3 hv hp3 off => ?_⟩
      have s3 : Same H1 H3 := fun b o e => off b o (same_new nq b o (s2 b o e)) (ne_of_none e np)
      have hL3 := s3 _ _ hL
      clear hp hp3 off nq np s2 s3 hL
      obtain ⟨sv, dv, hdv, sh3, eq3⟩ := menu_is hv
      intro a0 n0
      obtain ⟨t0, e0⟩ := ex_new (C := c 0) n0
      generalize upd H3 a0 (ExO (.ref (c 0)) a0) = A0 at t0 e0 ⊢
      intro a1 n1
      obtain ⟨t1, e1⟩ := ex_new (C := c 1) n1
      generalize upd A0 a1 (ExO (.ref (c 1)) a1) = A1 at t1 e1 ⊢
      intro a2 n2
      obtain ⟨t2, e2⟩ := ex_new (C := c 2) n2
      generalize upd A1 a2 (ExO (.ref (c 2)) a2) = A2 at t2 e2 ⊢
      intro a3 n3
      obtain ⟨t3, e3⟩ := ex_new (C := c 3) n3
      generalize upd A2 a3 (ExO (.ref (c 3)) a3) = A3 at t3 e3 ⊢
      intro a4 n4
      obtain ⟨t4, e4⟩ := ex_new (C := c 4) n4
      generalize upd A3 a4 (ExO (.ref (c 4)) a4) = A4 at t4 e4 ⊢
      intro a5 n5
      obtain ⟨t5, e5⟩ := ex_new (C := c 5) n5
      generalize upd A4 a5 (ExO (.ref (c 5)) a5) = A5 at t5 e5 ⊢
      intro a6 n6
      obtain ⟨t6, e6⟩ := ex_new (C := c 6) n6
      generalize upd A5 a6 (ExO (.ref (c 6)) a6) = A6 at t6 e6 ⊢
      refine ⟨by show 7 ≤ sizeLine; decide, fun l1 ml1 => ?_⟩
      have tl1 := same_new (o := .lst [.ref a0, .ref a1, .ref a2, .ref a3, .ref a4, .ref a5, .ref a6]) ml1
      have hl1 : upd A6 l1 (.lst [.ref a0, .ref a1, .ref a2, .ref a3, .ref a4, .ref a5, .ref a6]) l1 = some (.lst [.ref a0, .ref a1, .ref a2, .ref a3, .ref a4, .ref a5, .ref a6]) := upd_same
      generalize upd A6 l1 (.lst [.ref a0, .ref a1, .ref a2, .ref a3, .ref a4, .ref a5, .ref a6]) = Al1 at tl1 hl1 ⊢
      refine ⟨_, rfl, ?_⟩
      intro a7 n7
      obtain ⟨t7, e7⟩ := ex_new (C := c 7) n7
      generalize upd Al1 a7 (ExO (.ref (c 7)) a7) = A7 at t7 e7 ⊢
      intro a8 n8
      obtain ⟨t8, e8⟩ := ex_new (C := c 8) n8
      generalize upd A7 a8 (ExO (.ref (c 8)) a8) = A8 at t8 e8 ⊢
      intro a9 n9
      obtain ⟨t9, e9⟩ := ex_new (C := c 9) n9
      generalize upd A8 a9 (ExO (.ref (c 9)) a9) = A9 at t9 e9 ⊢
      intro a10 n10
      obtain ⟨t10, e10⟩ := ex_new (C := c 10) n10
      generalize upd A9 a10 (ExO (.ref (c 10)) a10) = A10 at t10 e10 ⊢
      refine ⟨by show 4 ≤ sizeLine; decide, fun l2 ml2 => ?_⟩
      have tl2 := same_new (o := .lst [.ref a7, .ref a8, .ref a9, .ref a10]) ml2
      have hl2 : upd A10 l2 (.lst [.ref a7, .ref a8, .ref a9, .ref a10]) l2 = some (.lst [.ref a7, .ref a8, .ref a9, .ref a10]) := upd_same
      generalize upd A10 l2 (.lst [.ref a7, .ref a8, .ref a9, .ref a10]) = Al2 at tl2 hl2 ⊢
      refine ⟨l1, l2, _, _, rfl, rfl, (((((t7.trans t8).trans t9).trans t10).trans tl2) _ _ hl1), ((Same.refl Al2) _ _ hl2), by show 11 ≤ sizeLine; decide, fun l3 ml3 => ?_⟩
      have tl3 := same_new (o := .lst ([V.ref a0, V.ref a1, V.ref a2, V.ref a3, V.ref a4, V.ref a5, V.ref a6] ++ [V.ref a7, V.ref a8, V.ref a9, V.ref a10])) ml3
      have hl3 : upd Al2 l3 (.lst ([V.ref a0, V.ref a1, V.ref a2, V.ref a3, V.ref a4, V.ref a5, V.ref a6] ++ [V.ref a7, V.ref a8, V.ref a9, V.ref a10])) l3 = some (.lst [.ref a0, .ref a1, .ref a2, .ref a3, .ref a4, .ref a5, .ref a6, .ref a7, .ref a8, .ref a9, .ref a10]) := upd_same
      generalize upd Al2 l3 (.lst ([V.ref a0, V.ref a1, V.ref a2, V.ref a3, V.ref a4, V.ref a5, V.ref a6] ++ [V.ref a7, V.ref a8, V.ref a9, V.ref a10])) = Al3 at tl3 hl3 ⊢
      refine ⟨_, rfl, by show 1 ≤ 1000; decide, fun b0 nb0 => ⟨b0, v, rfl, upd_same, fun d0 nd0 ne0 => ⟨rfl, ?_⟩⟩⟩
      obtain ⟨tb0, eb0⟩ := ex_own (f := "part") (v := v) (C := (c 11)) nb0 nd0 ne0
      generalize upd (upd (upd Al3 b0 (exo b0 (c 11) none)) d0 (exd d0 [("part", v)])) b0 (exo b0 (c 11) (some d0)) = B0 at tb0 eb0 ⊢
      refine ⟨_, rfl, by show 1 ≤ 1000; decide, fun b1 nb1 => ⟨b1, v, rfl, upd_same, fun d1 nd1 ne1 => ⟨rfl, ?_⟩⟩⟩
      obtain ⟨tb1, eb1⟩ := ex_own (f := "part") (v := v) (C := (c 12)) nb1 nd1 ne1
      generalize upd (upd (upd B0 b1 (exo b1 (c 12) none)) d1 (exd d1 [("part", v)])) b1 (exo b1 (c 12) (some d1)) = B1 at tb1 eb1 ⊢
      refine ⟨_, rfl, by show 1 ≤ 1000; decide, fun b2 nb2 => ⟨b2, v, rfl, upd_same, fun d2 nd2 ne2 => ⟨rfl, ?_⟩⟩⟩
      obtain ⟨tb2, eb2⟩ := ex_own (f := "part") (v := v) (C := (c 13)) nb2 nd2 ne2
      generalize upd (upd (upd B1 b2 (exo b2 (c 13) none)) d2 (exd d2 [("part", v)])) b2 (exo b2 (c 13) (some d2)) = B2 at tb2 eb2 ⊢
      refine ⟨by show 3 ≤ sizeLine; decide, fun l4 ml4 => ?_⟩
      have tl4 := same_new (o := .lst [.ref b0, .ref b1, .ref b2]) ml4
      have hl4 : upd B2 l4 (.lst [.ref b0, .ref b1, .ref b2]) l4 = some (.lst [.ref b0, .ref b1, .ref b2]) := upd_same
      generalize upd B2 l4 (.lst [.ref b0, .ref b1, .ref b2]) = Al4 at tl4 hl4 ⊢
      refine ⟨_, rfl, ?_⟩
      refine ⟨_, rfl, by show 1 ≤ 1000; decide, fun b3 nb3 => ⟨b3, v, rfl, upd_same, fun d3 nd3 ne3 => ⟨rfl, ?_⟩⟩⟩
      obtain ⟨tb3, eb3⟩ := ex_own (f := "at") (v := v) (C := (c 14)) nb3 nd3 ne3
      generalize upd (upd (upd Al4 b3 (exo b3 (c 14) none)) d3 (exd d3 [("at", v)])) b3 (exo b3 (c 14) (some d3)) = B3 at tb3 eb3 ⊢
      refine ⟨_, rfl, by show 1 ≤ 1000; decide, fun b4 nb4 => ⟨b4, v, rfl, upd_same, fun d4 nd4 ne4 => ⟨rfl, ?_⟩⟩⟩
      obtain ⟨tb4, eb4⟩ := ex_own (f := "name") (v := v) (C := (c 15)) nb4 nd4 ne4
      generalize upd (upd (upd B3 b4 (exo b4 (c 15) none)) d4 (exd d4 [("name", v)])) b4 (exo b4 (c 15) (some d4)) = B4 at tb4 eb4 ⊢
      refine ⟨by show 2 ≤ sizeLine; decide, fun l5 ml5 => ?_⟩
      have tl5 := same_new (o := .lst [.ref b3, .ref b4]) ml5
      have hl5 : upd B4 l5 (.lst [.ref b3, .ref b4]) l5 = some (.lst [.ref b3, .ref b4]) := upd_same
      generalize upd B4 l5 (.lst [.ref b3, .ref b4]) = Al5 at tl5 hl5 ⊢
      refine ⟨l4, l5, _, _, rfl, rfl, (((tb3.trans tb4).trans tl5) _ _ hl4), ((Same.refl Al5) _ _ hl5), by show 5 ≤ sizeLine; decide, fun l6 ml6 => ?_⟩
      have tl6 := same_new (o := .lst ([V.ref b0, V.ref b1, V.ref b2] ++ [V.ref b3, V.ref b4])) ml6
      have hl6 : upd Al5 l6 (.lst ([V.ref b0, V.ref b1, V.ref b2] ++ [V.ref b3, V.ref b4])) l6 = some (.lst [.ref b0, .ref b1, .ref b2, .ref b3, .ref b4]) := upd_same
      generalize upd Al5 l6 (.lst ([V.ref b0, V.ref b1, V.ref b2] ++ [V.ref b3, V.ref b4])) = Al6 at tl6 hl6 ⊢
      refine ⟨_, rfl, _, rfl, l3, l6, _, _, rfl, rfl, ((((((((tb0.trans tb1).trans tb2).trans tl4).trans tb3).trans tb4).trans tl5).trans tl6) _ _ hl3), ((Same.refl Al6) _ _ hl6), by show 16 ≤ sizeLine; decide, fun l7 ml7 => ?_⟩
      have tl7 := same_new (o := .lst ([V.ref a0, V.ref a1, V.ref a2, V.ref a3, V.ref a4, V.ref a5, V.ref a6, V.ref a7, V.ref a8, V.ref a9, V.ref a10] ++ [V.ref b0, V.ref b1, V.ref b2, V.ref b3, V.ref b4])) ml7
      have hl7 : upd Al6 l7 (.lst ([V.ref a0, V.ref a1, V.ref a2, V.ref a3, V.ref a4, V.ref a5, V.ref a6, V.ref a7, V.ref a8, V.ref a9, V.ref a10] ++ [V.ref b0, V.ref b1, V.ref b2, V.ref b3, V.ref b4])) l7 = some (.lst [.ref a0, .ref a1, .ref a2, .ref a3, .ref a4, .ref a5, .ref a6, .ref a7, .ref a8, .ref a9, .ref a10, .ref b0, .ref b1, .ref b2, .ref b3, .ref b4]) := upd_same
      generalize upd Al6 l7 (.lst ([V.ref a0, V.ref a1, V.ref a2, V.ref a3, V.ref a4, V.ref a5, V.ref a6, V.ref a7, V.ref a8, V.ref a9, V.ref a10] ++ [V.ref b0, V.ref b1, V.ref b2, V.ref b3, V.ref b4])) = Al7 at tl7 hl7 ⊢
      have hL4 := ((((((((((((((((((((((t0.trans t1).trans t2).trans t3).trans t4).trans t5).trans t6).trans tl1).trans t7).trans t8).trans t9).trans t10).trans tl2).trans tl3).trans tb0).trans tb1).trans tb2).trans tl4).trans tb3).trans tb4).trans tl5).trans tl6).trans tl7) _ _ hL3
      have h6 := tl7 _ _ hl6
      have E0 := e0.same (((((((((((((((((((((t1.trans t2).trans t3).trans t4).trans t5).trans t6).trans tl1).trans t7).trans t8).trans t9).trans t10).trans tl2).trans tl3).trans tb0).trans tb1).trans tb2).trans tl4).trans tb3).trans tb4).trans tl5).trans tl6).trans tl7)
      have E1 := e1.same ((((((((((((((((((((t2.trans t3).trans t4).trans t5).trans t6).trans tl1).trans t7).trans t8).trans t9).trans t10).trans tl2).trans tl3).trans tb0).trans tb1).trans tb2).trans tl4).trans tb3).trans tb4).trans tl5).trans tl6).trans tl7)
      have E2 := e2.same (((((((((((((((((((t3.trans t4).trans t5).trans t6).trans tl1).trans t7).trans t8).trans t9).trans t10).trans tl2).trans tl3).trans tb0).trans tb1).trans tb2).trans tl4).trans tb3).trans tb4).trans tl5).trans tl6).trans tl7)
      have E3 := e3.same ((((((((((((((((((t4.trans t5).trans t6).trans tl1).trans t7).trans t8).trans t9).trans t10).trans tl2).trans tl3).trans tb0).trans tb1).trans tb2).trans tl4).trans tb3).trans tb4).trans tl5).trans tl6).trans tl7)
      have E4 := e4.same (((((((((((((((((t5.trans t6).trans tl1).trans t7).trans t8).trans t9).trans t10).trans tl2).trans tl3).trans tb0).trans tb1).trans tb2).trans tl4).trans tb3).trans tb4).trans tl5).trans tl6).trans tl7)
      have E5 := e5.same ((((((((((((((((t6.trans tl1).trans t7).trans t8).trans t9).trans t10).trans tl2).trans tl3).trans tb0).trans tb1).trans tb2).trans tl4).trans tb3).trans tb4).trans tl5).trans tl6).trans tl7)
      have E6 := e6.same (((((((((((((((tl1.trans t7).trans t8).trans t9).trans t10).trans tl2).trans tl3).trans tb0).trans tb1).trans tb2).trans tl4).trans tb3).trans tb4).trans tl5).trans tl6).trans tl7)
      have E7 := e7.same (((((((((((((t8.trans t9).trans t10).trans tl2).trans tl3).trans tb0).trans tb1).trans tb2).trans tl4).trans tb3).trans tb4).trans tl5).trans tl6).trans tl7)
      have E8 := e8.same ((((((((((((t9.trans t10).trans tl2).trans tl3).trans tb0).trans tb1).trans tb2).trans tl4).trans tb3).trans tb4).trans tl5).trans tl6).trans tl7)
      have E9 := e9.same (((((((((((t10.trans tl2).trans tl3).trans tb0).trans tb1).trans tb2).trans tl4).trans tb3).trans tb4).trans tl5).trans tl6).trans tl7)
      have E10 := e10.same ((((((((((tl2.trans tl3).trans tb0).trans tb1).trans tb2).trans tl4).trans tb3).trans tb4).trans tl5).trans tl6).trans tl7)
      have E11 := eb0.same (((((((tb1.trans tb2).trans tl4).trans tb3).trans tb4).trans tl5).trans tl6).trans tl7)
      have E12 := eb1.same ((((((tb2.trans tl4).trans tb3).trans tb4).trans tl5).trans tl6).trans tl7)
      have E13 := eb2.same (((((tl4.trans tb3).trans tb4).trans tl5).trans tl6).trans tl7)
      have E14 := eb3.same (((tb4.trans tl5).trans tl6).trans tl7)
      have E15 := eb4.same ((tl5.trans tl6).trans tl7)
      have all16 : ∀ i, i < 16 → ∃ r d, ([V.ref a0, V.ref a1, V.ref a2, V.ref a3, V.ref a4, V.ref a5, V.ref a6, V.ref a7, V.ref a8, V.ref a9, V.ref a10, V.ref b0, V.ref b1, V.ref b2, V.ref b3, V.ref b4] : List V)[i]? = some (V.ref r) ∧ ExV Al7 r (c i) d := fun i hi => match i, hi with
        | 0, _ => ⟨a0, _, rfl, E0⟩
        | 1, _ => ⟨a1, _, rfl, E1⟩
        | 2, _ => ⟨a2, _, rfl, E2⟩
        | 3, _ => ⟨a3, _, rfl, E3⟩
        | 4, _ => ⟨a4, _, rfl, E4⟩
        | 5, _ => ⟨a5, _, rfl, E5⟩
        | 6, _ => ⟨a6, _, rfl, E6⟩
        | 7, _ => ⟨a7, _, rfl, E7⟩
        | 8, _ => ⟨a8, _, rfl, E8⟩
        | 9, _ => ⟨a9, _, rfl, E9⟩
        | 10, _ => ⟨a10, _, rfl, E10⟩
        | 11, _ => ⟨b0, _, rfl, E11⟩
        | 12, _ => ⟨b1, _, rfl, E12⟩
        | 13, _ => ⟨b2, _, rfl, E13⟩
        | 14, _ => ⟨b3, _, rfl, E14⟩
        | 15, _ => ⟨b4, _, rfl, E15⟩
        | j + 16, h => absurd h (by omega)
      have parts : ∀ (i : Nat) (x : V), ([V.ref b0, V.ref b1, V.ref b2] : List V)[i]? = some x → ∃ r C, x = V.ref r ∧ ExV Al7 r C (some [("part", v)]) ∧ ExcC K C ∧ PySem.W.findIn K (.ref C) "part" = some none := by
        intro i x hx
        match i, hx with
        | 0, hx => exact ⟨b0, _, (Option.some.inj hx).symm, E11, T.exc 11 (by decide), T.n0⟩
        | 1, hx => exact ⟨b1, _, (Option.some.inj hx).symm, E12, T.exc 12 (by decide), T.n1⟩
        | 2, hx => exact ⟨b2, _, (Option.some.inj hx).symm, E13, T.exc 13 (by decide), T.n2⟩
        | j + 3, hx => simp at hx
      refine ⟨l7, _, rfl, SqL.of hl7, ?_⟩
      refine for_it (walk_enum (K := K) (a := l7) (xs := [V.ref a0, V.ref a1, V.ref a2, V.ref a3, V.ref a4, V.ref a5, V.ref a6, V.ref a7, V.ref a8, V.ref a9, V.ref a10, V.ref b0, V.ref b1, V.ref b2, V.ref b3, V.ref b4])) (fun i σ H' => (∃ y6 y7 y8, σ = [some (V.ref a), some (V.int z), some (V.ref p), some v, some (V.ref l3), some (V.ref l6), y6, y7, y8]) ∧ Same Al7 H')
        ⟨⟨_, _, _, rfl⟩, Same.refl _⟩ (fun i σ H' _ h => SqL.of (h.2 _ _ hl7)) ?_ ?_
      · rintro i x σ G1 G2 hi ⟨⟨y6, y7, y8, rfl⟩, g1⟩ ⟨Tp, x1, x2, rfl, nT, rfl, ex1, ex2⟩
        have hi16 : i < 16 := hi
        cases ex1
        obtain ⟨r, d, hr7, ev0⟩ := all16 i hi16
        have ex3 := ex2.symm.trans hr7
        cases ex3
        have g2 : Same Al7 (upd G1 Tp (.tup [.int (i : Nat), .ref r])) := g1.trans (same_new nT)
        refine ⟨Tp, _, rfl, .inl (.inl upd_same), rfl, _, _, rfl, _, _, rfl, rfl, ?_⟩
        generalize upd G1 Tp (.tup [.int (i : Nat), .ref r]) = G2 at g2 ⊢
        refine ⟨_, rfl, r, i, d, rfl, hi16, ev0.same g2, fun pc G3 npc g3 hpc => ?_⟩
        refine ⟨16, rfl, by decide, by decide, fun D nD => ?_⟩
        refine lc_range (n := 16) (fun k H' => Same G3 H' ∧ H' D = some (.lst (((rowB i).take k).map V.bl))) ⟨same_new nD, upd_same⟩ ?_ ?_
        · rintro k G4 hk ⟨g4, hD⟩
          refine ⟨rfl, _, rfl, _, rfl, rfl, _, hD, ?_, ?_, ?_⟩
          · rw [List.length_map, List.length_take, row_len]
            exact Nat.lt_of_le_of_lt (Nat.min_le_right _ _) (by decide)
          · exact fun b o e => by
              rw [upd_ne (ne_of_none e nD)]
              exact g4 b o e
          · rw [upd_same, row_next i k hk, List.map_append]
            have e1 : decide (V.int (0 + (k : Int)) = V.int (i : Int)) = decide (k = i) := by
              by_cases hki : k = i
              · subst hki
                rw [decide_eq_true rfl, decide_eq_true (by rw [Int.zero_add])]
              · rw [decide_eq_false hki, decide_eq_false (fun q => hki (by have q2 := V.int.inj q; omega))]
            rw [e1]
            rfl
        · rintro G4 ⟨g4, hD⟩
          obtain ⟨sh, eq⟩ := row_eq i hi16
          have hD2 : G4 D = some (.lst ((rowB i).map V.bl)) := by
            rw [hD, List.take_of_length_le (by rw [row_len]; exact Nat.le_refl _)]
          refine ⟨.list ((rowB i).map PyData.bool), .list ((rowB i).map PyData.bool), .lst (SqL.of (g4 _ _ hpc)) (dp_bools _ _ _), .lst (SqL.of hD2) (dp_bools _ _ _), sh, sh, _, rfl, ?_⟩
          rw [eq]
          have ev4 : ExV G4 r (c i) d := ev0.same ((g2.trans g3).trans g4)
          refine ⟨_, rfl, r, c i, d, _, _, _, rfl, ev4, T.exc i hi16, ClsV.own _, T.kitE i hi16, true, rfl, ?_⟩
          refine ⟨_, rfl, r, c i, d, _, _, _, rfl, ev4, T.exc i hi16, ClsV.ty _, T.kitV i hi16, true, rfl, ?_⟩
          exact ⟨⟨_, _, _, rfl⟩, (g2.trans g3).trans g4⟩
      · rintro σ G5 ⟨⟨y6, y7, y8, rfl⟩, g5⟩
        refine ⟨_, rfl, 3, rfl, l6, _, rfl, SqL.of (g5 _ _ h6), fun q2 nq2 => ?_⟩
        refine ⟨q2, rfl, ⟨_, SqL.of upd_same⟩, fun D nD => ?_⟩
        have gq : Same G5 (upd G5 q2 (.lst [.ref b0, .ref b1, .ref b2])) := same_new nq2
        have hq2 : upd G5 q2 (.lst [.ref b0, .ref b1, .ref b2]) q2 = some (.lst [.ref b0, .ref b1, .ref b2]) := upd_same
        refine lc_list (K := K) (a := q2) (xs := [.ref b0, .ref b1, .ref b2]) (fun k H' => Same G5 H' ∧ H' q2 = some (.lst [.ref b0, .ref b1, .ref b2]) ∧ H' D = some (.lst (List.replicate k v)))
          ⟨gq.trans (same_new nD), same_new nD _ _ hq2, upd_same⟩ (fun i H' _ h => SqL.of h.2.1) ?_ ?_
        · rintro i x G6 hx ⟨g6, hq6, hD⟩
          obtain ⟨r, C, rfl, ev, ec, hn⟩ := parts i x hx
          have hi3 : i < 3 := (List.getElem?_eq_some_iff.mp hx).1
          refine ⟨rfl, _, rfl, r, C, _, v, rfl, ev.same (g5.trans g6), ec, hn, by simp [List.lookup], _, hD, ?_, ?_, ?_, ?_⟩
          · rw [List.length_replicate]
            exact Nat.lt_trans hi3 (by decide)
          · exact fun b o e => by
              rw [upd_ne (ne_of_none (gq b o e) nD)]
              exact g6 b o e
          · rw [upd_ne (ne_of_none hq2 nD)]
            exact hq6
          · rw [upd_same, List.replicate_succ']
        · rintro G6 ⟨g6, hq6, hD⟩
          refine ⟨_, rfl, by show 1 ≤ sizeLine; decide, fun r1 nr1 => ?_⟩
          refine ⟨r1, 3, _, rfl, rfl, upd_same, by decide, by decide, by show 3 ≤ sizeLine; decide, fun r2 nr2 => ?_⟩
          have g7 := (same_new (o := .lst [v]) nr1).trans (same_new (o := .lst (List.replicate (3 : Int).toNat [v]).flatten) nr2)
          refine ⟨.list [dv, dv, dv], .list [dv, dv, dv], .lst (xs := [v, v, v]) (SqL.of (g7 _ _ hD)) (.cons (hdv _ _) (.cons (hdv _ _) (.cons (hdv _ _) .nil))), .lst (xs := [v, v, v]) (SqL.of upd_same) (.cons (hdv _ _) (.cons (hdv _ _) (.cons (hdv _ _) .nil))), sh3, sh3, _, rfl, ?_⟩
          rw [eq3]
          have g8 := (g5.trans g6).trans g7
          have nvv : (!decide (v = v)) = false := by simp
          refine ⟨_, rfl, l6, _, _, _, rfl, rfl, SqL.of (g8 _ _ h6), atI_nat (j := 3) rfl, b3, _, _, v, rfl, E14.same g8, T.exc 14 (by decide), T.n3, by simp [List.lookup], _, rfl, sv, _, rfl, ?_⟩
          rw [nvv]
          refine ⟨_, rfl, l6, _, _, _, rfl, rfl, SqL.of (g8 _ _ h6), atI_nat (j := 4) rfl, b4, _, _, v, rfl, E15.same g8, T.exc 15 (by decide), T.n4, by simp [List.lookup], _, rfl, sv, _, rfl, ?_⟩
          rw [nvv]
          exact ⟨⟨_, _, _, _, _, _, _, _, rfl⟩, g8 _ _ hL4⟩
    · rintro σ H1 ⟨⟨y1, y2, y3, y4, y5, y6, y7, y8, rfl⟩, hL⟩
      exact k _
end
end Toy
set_option Elab.async false
set_option linter.all false
set_option maxRecDepth 100000
set_option maxHeartbeats 4000000
namespace Toy
open PySem PySem.Spec PyProof.Rows L2
/-! ### what the top has left -/
def cOf (cs : List Addr) (i : Nat) : Addr := cs.getD i 0
def excB (K : PySem.W.Frag) (C : Addr) : Bool :=
  (PySem.W.findIn K (.ref C) "__getattribute__" == some (some (.builtin "BaseException.__getattribute__")))
  && (PySem.W.findIn K (.ref C) "__getattr__" == some none) && (PySem.W.subIn K (.ref C) (.type "BaseException") == some true) && PySem.W.hasDictIn K C
  && (PySem.W.findIn K (.ref C) "__class__" == some (some (.builtin "object.__class__")))
  && (PySem.W.specialIn K (.builtin "object.__class__") "__get__" == some (some (.builtin "getset_descriptor.__get__")))
  && (PySem.W.takesIn K (.builtin "object.__class__") == some true) && (PySem.W.mroIn K C (.type "object") == some true)
theorem exc_of {K : PySem.W.Frag} {C : Addr} (h : excB K C = true) : ExcC K C := by
  unfold excB at h
  simp only [Bool.and_eq_true, beq_iff_eq] at h
  obtain ⟨⟨⟨⟨⟨⟨⟨h1, h2⟩, h3⟩, h4⟩, h5⟩, h6⟩, h7⟩, h8⟩ := h
  exact ⟨h1, h2, h3, h4, h5, h6, h7, h8⟩
def tabB (K : PySem.W.Frag) (cs : List Addr) (cE : Addr) : Bool :=
  ((List.range 16).all fun i => excB K (cOf cs i) && PySem.W.keepIn K (.ref (cOf cs i)) && (PySem.W.kitOne K (.ref (cOf cs i)) (.ref cE) == some true) && (PySem.W.kitOne K (.ref (cOf cs i)) (.type "ValueError") == some true)
    && (List.range 16).all fun j => PySem.W.kitOne K (.ref (cOf cs i)) (.ref (cOf cs j)) == some (decide (j = i)))
  && (List.range 11).all fun i => PySem.W.excIn K (cOf cs i) veMro "ValueError.__new__"
structure TabOk (K : PySem.W.Frag) (c : Nat → Addr) (cE : Addr) : Prop where
  exc : ∀ i, i < 16 → ExcC K (c i)
  kit : ∀ i, i < 16 → ∀ j, j < 16 → PySem.W.kitOne K (.ref (c i)) (.ref (c j)) = some (decide (j = i))
  kitE : ∀ i, i < 16 → PySem.W.kitOne K (.ref (c i)) (.ref cE) = some true
  kitV : ∀ i, i < 16 → PySem.W.kitOne K (.ref (c i)) (.type "ValueError") = some true
  own : ∀ i, i < 11 → PySem.W.excIn K (c i) veMro "ValueError.__new__" = true
  kp : ∀ i, i < 16 → PySem.W.keepIn K (.ref (c i)) = true
theorem tab_of {K : PySem.W.Frag} {cs : List Addr} {cE : Addr} (h : tabB K cs cE = true) : TabOk K (cOf cs) cE := by
  unfold tabB at h
  rw [Bool.and_eq_true, List.all_eq_true, List.all_eq_true] at h
  obtain ⟨h1, h2⟩ := h
  have g : ∀ i, i < 16 → _ := fun i hi => h1 i (List.mem_range.mpr hi)
  simp only [Bool.and_eq_true, List.all_eq_true, beq_iff_eq] at g
  exact ⟨fun i hi => exc_of (g i hi).1.1.1.1, fun i hi j hj => (g i hi).2 j (List.mem_range.mpr hj), fun i hi => (g i hi).1.1.2, fun i hi => (g i hi).1.2, fun i hi => h2 i (List.mem_range.mpr hi), fun i hi => (g i hi).1.1.1.2⟩
abbrev sI0 : Stmt := inClass (top 2) 0
theorem scI0 : FnScope ["self", "part"] ["self", "part"] (defScope sI0) := ⟨rfl, rfl, rfl, by decide +kernel, rfl, by decide +kernel, by decide +kernel⟩
abbrev sI1 : Stmt := inClass (top 3) 0
theorem scI1 : FnScope ["self", "part"] ["self", "part"] (defScope sI1) := ⟨rfl, rfl, rfl, by decide +kernel, rfl, by decide +kernel, by decide +kernel⟩
abbrev sI2 : Stmt := inClass (top 12) 0
theorem scI2 : FnScope ["self", "part"] ["self", "part"] (defScope sI2) := ⟨rfl, rfl, rfl, by decide +kernel, rfl, by decide +kernel, by decide +kernel⟩
abbrev sI3 : Stmt := inClass (top 15) 0
theorem scI3 : FnScope ["self", "at"] ["self", "at"] (defScope sI3) := ⟨rfl, rfl, rfl, by decide +kernel, rfl, by decide +kernel, by decide +kernel⟩
abbrev sI4 : Stmt := inClass (top 17) 0
theorem scI4 : FnScope ["self", "name"] ["self", "name"] (defScope sI4) := ⟨rfl, rfl, rfl, by decide +kernel, rfl, by decide +kernel, by decide +kernel⟩
theorem all_mk {l : PySem.W.OpenLaw} {w : World} {K : PySem.W.Frag} {h : Heap} {mg : Str → Option Value}
    {fa cE C0 C1 C2 C3 C4 C5 C6 C7 C8 C9 C10 C11 C12 C13 C14 C15 fS fN fO fC fL i0 i1 i2 i3 i4 : Addr}
    {odS anS odN anN odO anO odC anC odL anL odI0 anI0 odI1 anI1 odI2 anI2 odI3 anI3 odI4 anI4 : Option Addr}
    {slS slN slO slC slL slI0 slI1 slI2 slI3 slI4 : Array (Option Value)}
    {ocS kVS dcS pmS cdS ctS ocN kVN dcN pmN cdN ctN ocO kVO dcO pmO cdO ctO ocC kVC dcC pmC cdC ctC ocL kVL dcL pmL cdL ctL ocI0 kVI0 dcI0 pmI0 cdI0 ctI0 ocI1 kVI1 dcI1 pmI1 cdI1 ctI1 ocI2 kVI2 dcI2 pmI2 cdI2 ctI2 ocI3 kVI3 dcI3 pmI3 cdI3 ctI3 ocI4 kVI4 dcI4 pmI4 cdI4 ctI4 : Value}
    {nm0 qn0 nm1 qn1 nm2 qn2 nm3 qn3 nm4 qn4 : Str} {N0 N1 N2 N3 N4 : Addr} {bs0 bm0 sub0 bs1 bm1 sub1 bs2 bm2 sub2 bs3 bm3 sub3 bs4 bm4 sub4 : List Value} {sn0 sn1 sn2 sn3 sn4 : List Str} {ab0 ab1 ab2 ab3 ab4 : Bool} {col0 col1 col2 col3 col4 : Option Bool} {dd0 dd1 dd2 dd3 dd4 : Option Addr} {u0 v0 w0 x0 y0 u1 v1 w1 x1 y1 u2 v2 w2 x2 y2 u3 v3 w3 x3 y3 u4 v4 w4 x4 y4 : Option Value}
    (X : K.In h) (G : h.Ns mainGlobals mg) (hfa : mg "law" = some (.ref fa))
    (aE : PySem.W.nsIn K mainGlobals "EndError" = some (some (.ref cE)))
    (a0 : PySem.W.nsIn K mainGlobals "NoRenaming" = some (some (.ref C0)))
    (a1 : PySem.W.nsIn K mainGlobals "NoMatch" = some (some (.ref C1)))
    (a2 : PySem.W.nsIn K mainGlobals "TooMany" = some (some (.ref C2)))
    (a3 : PySem.W.nsIn K mainGlobals "NoPairing" = some (some (.ref C3)))
    (a4 : PySem.W.nsIn K mainGlobals "NoJoin" = some (some (.ref C4)))
    (a5 : PySem.W.nsIn K mainGlobals "NoName" = some (some (.ref C5)))
    (a6 : PySem.W.nsIn K mainGlobals "NoLeg" = some (some (.ref C6)))
    (a7 : PySem.W.nsIn K mainGlobals "NoCounts" = some (some (.ref C7)))
    (a8 : PySem.W.nsIn K mainGlobals "NoColours" = some (some (.ref C8)))
    (a9 : PySem.W.nsIn K mainGlobals "NoNumbers" = some (some (.ref C9)))
    (a10 : PySem.W.nsIn K mainGlobals "NoRow" = some (some (.ref C10)))
    (a11 : PySem.W.nsIn K mainGlobals "NoStock" = some (some (.ref C11)))
    (a12 : PySem.W.nsIn K mainGlobals "NoDrawing" = some (some (.ref C12)))
    (a13 : PySem.W.nsIn K mainGlobals "NoWeights" = some (some (.ref C13)))
    (a14 : PySem.W.nsIn K mainGlobals "NoText" = some (some (.ref C14)))
    (a15 : PySem.W.nsIn K mainGlobals "NotThere" = some (some (.ref C15)))
    (tb : tabB K [C0, C1, C2, C3, C4, C5, C6, C7, C8, C9, C10, C11, C12, C13, C14, C15] cE = true)
    (xl0 : K.lookup C11 = some (excClassObj nm0 qn0 C11 N0 bs0 bm0 true sn0 sub0 ab0 col0 dd0 u0 v0 w0 x0 y0 "ValueError.__new__"))
    (rb0 : PySem.HandSPX.refsVE bm0 = true)
    (sa0 : PySem.W.findIn K (.ref C11) "__setattr__" = some (some (.builtin "object.__setattr__")))
    (ty0 : PySem.W.typeIn K (.ref C11) = some (.type "type"))
    (no0 : PySem.W.findIn K (.ref C11) "part" = some none)
    (ii0 : PySem.W.findIn K (.ref C11) "__init__" = some (some (.ref i0)))
    (ti0 : PySem.W.typeIn K (.ref i0) = some (.type "function"))
    (lI0 : K.lookup i0 = some ⟨ocI0, odI0, .func (PySem.W.fnOf "__init__" "NoStock.__init__" (defArgs sI0) (defBody sI0) (defScope sI0) .none kVI0 dcI0 pmI0 anI0 cdI0 ctI0), slI0⟩)
    (cI0 : PySem.W.codeIn K cdI0 "NoStock.__init__" = true)
    (kI0 : PySem.W.keepIn K (.ref i0) = true)
    (xl1 : K.lookup C12 = some (excClassObj nm1 qn1 C12 N1 bs1 bm1 true sn1 sub1 ab1 col1 dd1 u1 v1 w1 x1 y1 "ValueError.__new__"))
    (rb1 : PySem.HandSPX.refsVE bm1 = true)
    (sa1 : PySem.W.findIn K (.ref C12) "__setattr__" = some (some (.builtin "object.__setattr__")))
    (ty1 : PySem.W.typeIn K (.ref C12) = some (.type "type"))
    (no1 : PySem.W.findIn K (.ref C12) "part" = some none)
    (ii1 : PySem.W.findIn K (.ref C12) "__init__" = some (some (.ref i1)))
    (ti1 : PySem.W.typeIn K (.ref i1) = some (.type "function"))
    (lI1 : K.lookup i1 = some ⟨ocI1, odI1, .func (PySem.W.fnOf "__init__" "NoDrawing.__init__" (defArgs sI1) (defBody sI1) (defScope sI1) .none kVI1 dcI1 pmI1 anI1 cdI1 ctI1), slI1⟩)
    (cI1 : PySem.W.codeIn K cdI1 "NoDrawing.__init__" = true)
    (kI1 : PySem.W.keepIn K (.ref i1) = true)
    (xl2 : K.lookup C13 = some (excClassObj nm2 qn2 C13 N2 bs2 bm2 true sn2 sub2 ab2 col2 dd2 u2 v2 w2 x2 y2 "ValueError.__new__"))
    (rb2 : PySem.HandSPX.refsVE bm2 = true)
    (sa2 : PySem.W.findIn K (.ref C13) "__setattr__" = some (some (.builtin "object.__setattr__")))
    (ty2 : PySem.W.typeIn K (.ref C13) = some (.type "type"))
    (no2 : PySem.W.findIn K (.ref C13) "part" = some none)
    (ii2 : PySem.W.findIn K (.ref C13) "__init__" = some (some (.ref i2)))
    (ti2 : PySem.W.typeIn K (.ref i2) = some (.type "function"))
    (lI2 : K.lookup i2 = some ⟨ocI2, odI2, .func (PySem.W.fnOf "__init__" "NoWeights.__init__" (defArgs sI2) (defBody sI2) (defScope sI2) .none kVI2 dcI2 pmI2 anI2 cdI2 ctI2), slI2⟩)
    (cI2 : PySem.W.codeIn K cdI2 "NoWeights.__init__" = true)
    (kI2 : PySem.W.keepIn K (.ref i2) = true)
    (xl3 : K.lookup C14 = some (excClassObj nm3 qn3 C14 N3 bs3 bm3 true sn3 sub3 ab3 col3 dd3 u3 v3 w3 x3 y3 "ValueError.__new__"))
    (rb3 : PySem.HandSPX.refsVE bm3 = true)
    (sa3 : PySem.W.findIn K (.ref C14) "__setattr__" = some (some (.builtin "object.__setattr__")))
    (ty3 : PySem.W.typeIn K (.ref C14) = some (.type "type"))
    (no3 : PySem.W.findIn K (.ref C14) "at" = some none)
    (ii3 : PySem.W.findIn K (.ref C14) "__init__" = some (some (.ref i3)))
    (ti3 : PySem.W.typeIn K (.ref i3) = some (.type "function"))
    (lI3 : K.lookup i3 = some ⟨ocI3, odI3, .func (PySem.W.fnOf "__init__" "NoText.__init__" (defArgs sI3) (defBody sI3) (defScope sI3) .none kVI3 dcI3 pmI3 anI3 cdI3 ctI3), slI3⟩)
    (cI3 : PySem.W.codeIn K cdI3 "NoText.__init__" = true)
    (kI3 : PySem.W.keepIn K (.ref i3) = true)
    (xl4 : K.lookup C15 = some (excClassObj nm4 qn4 C15 N4 bs4 bm4 true sn4 sub4 ab4 col4 dd4 u4 v4 w4 x4 y4 "ValueError.__new__"))
    (rb4 : PySem.HandSPX.refsVE bm4 = true)
    (sa4 : PySem.W.findIn K (.ref C15) "__setattr__" = some (some (.builtin "object.__setattr__")))
    (ty4 : PySem.W.typeIn K (.ref C15) = some (.type "type"))
    (no4 : PySem.W.findIn K (.ref C15) "name" = some none)
    (ii4 : PySem.W.findIn K (.ref C15) "__init__" = some (some (.ref i4)))
    (ti4 : PySem.W.typeIn K (.ref i4) = some (.type "function"))
    (lI4 : K.lookup i4 = some ⟨ocI4, odI4, .func (PySem.W.fnOf "__init__" "NotThere.__init__" (defArgs sI4) (defBody sI4) (defScope sI4) .none kVI4 dcI4 pmI4 anI4 cdI4 ctI4), slI4⟩)
    (cI4 : PySem.W.codeIn K cdI4 "NotThere.__init__" = true)
    (kI4 : PySem.W.keepIn K (.ref i4) = true)
    (gS : PySem.W.nsIn K mainGlobals "_law_source_of" = some (some (.ref fS)))
    (lS : K.lookup fS = some ⟨ocS, odS, .func (PySem.W.fnOf "_law_source_of" "_law_source_of" (defArgs sSrc) (defBody sSrc) (defScope sSrc) .none kVS dcS pmS anS cdS ctS), slS⟩)
    (cS : PySem.W.codeIn K cdS "_law_source_of" = true)
    (kS : PySem.W.keepIn K (.ref fS) = true)
    (gN : PySem.W.nsIn K mainGlobals "_law_next" = some (some (.ref fN)))
    (lN : K.lookup fN = some ⟨ocN, odN, .func (PySem.W.fnOf "_law_next" "_law_next" (defArgs sNext) (defBody sNext) (defScope sNext) .none kVN dcN pmN anN cdN ctN), slN⟩)
    (cN : PySem.W.codeIn K cdN "_law_next" = true)
    (kN : PySem.W.keepIn K (.ref fN) = true)
    (gO : PySem.W.nsIn K mainGlobals "_law_one" = some (some (.ref fO)))
    (lO : K.lookup fO = some ⟨ocO, odO, .func (PySem.W.fnOf "_law_one" "_law_one" (defArgs sOne) (defBody sOne) (defScope sOne) .none kVO dcO pmO anO cdO ctO), slO⟩)
    (cO : PySem.W.codeIn K cdO "_law_one" = true)
    (kO : PySem.W.keepIn K (.ref fO) = true)
    (gC : PySem.W.nsIn K mainGlobals "_law_classes" = some (some (.ref fC)))
    (lC : K.lookup fC = some ⟨ocC, odC, .func (PySem.W.fnOf "_law_classes" "_law_classes" (defArgs sCls) (defBody sCls) (defScope sCls) .none kVC dcC pmC anC cdC ctC), slC⟩)
    (cC : PySem.W.codeIn K cdC "_law_classes" = true)
    (kC : PySem.W.keepIn K (.ref fC) = true)
    (gL : PySem.W.nsIn K mainGlobals "law" = some (some (.ref fL)))
    (lL : K.lookup fL = some ⟨ocL, odL, .func (PySem.W.fnOf "law" "law" (defArgs sLaw) (defBody sLaw) (defScope sLaw) .none kVL dcL pmL anL cdL ctL), slL⟩)
    (cL : PySem.W.codeIn K cdL "law" = true)
    (kL : PySem.W.keepIn K (.ref fL) = true)
    (z_int : PySem.W.nsIn K mainGlobals "int" = some none)
    (z_len : PySem.W.nsIn K mainGlobals "len" = some none)
    (z_enumerate : PySem.W.nsIn K mainGlobals "enumerate" = some none)
    (z_range : PySem.W.nsIn K mainGlobals "range" = some none)
    (z_isinstance : PySem.W.nsIn K mainGlobals "isinstance" = some none)
    (z_ValueError : PySem.W.nsIn K mainGlobals "ValueError" = some none) :
    ∃ fd : FuncData, (∀ (s : Shared) (v : Value), BindsTo s fd ⟨[v], []⟩ [("_law_script", v)]) ∧ ∀ base : Heap, K.In base → base.Ns mainGlobals mg → FnOk l.prog w K mg base CX0 4 fa fd ["_law_script"] (spLaw K) := by
  have e := hfa.symm.trans (PySem.W.mg_of X G gL)
  cases e
  have tab := tab_of tb
  have ox0 : OexC K C11 := ⟨⟨_, _, _, _, _, _, _, _, _, _, _, _, _, _, _, xl0, rb0⟩, sa0, (tab.exc 11 (by decide)).hs, ty0, tab.kp 11 (by decide)⟩
  have ox1 : OexC K C12 := ⟨⟨_, _, _, _, _, _, _, _, _, _, _, _, _, _, _, xl1, rb1⟩, sa1, (tab.exc 12 (by decide)).hs, ty1, tab.kp 12 (by decide)⟩
  have ox2 : OexC K C13 := ⟨⟨_, _, _, _, _, _, _, _, _, _, _, _, _, _, _, xl2, rb2⟩, sa2, (tab.exc 13 (by decide)).hs, ty2, tab.kp 13 (by decide)⟩
  have ox3 : OexC K C14 := ⟨⟨_, _, _, _, _, _, _, _, _, _, _, _, _, _, _, xl3, rb3⟩, sa3, (tab.exc 14 (by decide)).hs, ty3, tab.kp 14 (by decide)⟩
  have ox4 : OexC K C15 := ⟨⟨_, _, _, _, _, _, _, _, _, _, _, _, _, _, _, xl4, rb4⟩, sa4, (tab.exc 15 (by decide)).hs, ty4, tab.kp 15 (by decide)⟩
  have T : CTxt K mg (cOf [C0, C1, C2, C3, C4, C5, C6, C7, C8, C9, C10, C11, C12, C13, C14, C15]) cE (cOf [i0, i1, i2, i3, i4]) := {
    exc := tab.exc, kit := tab.kit, kitE := tab.kitE, kitV := tab.kitV, own := tab.own, kp := tab.kp
    oex := fun i hi => match i, hi with
      | 0, _ => ox0
      | 1, _ => ox1
      | 2, _ => ox2
      | 3, _ => ox3
      | 4, _ => ox4
      | j + 5, h => absurd h (by omega)
    ini := fun i hi => match i, hi with
      | 0, _ => ii0
      | 1, _ => ii1
      | 2, _ => ii2
      | 3, _ => ii3
      | 4, _ => ii4
      | j + 5, h => absurd h (by omega)
    fun_ := fun i hi => match i, hi with
      | 0, _ => ti0
      | 1, _ => ti1
      | 2, _ => ti2
      | 3, _ => ti3
      | 4, _ => ti4
      | j + 5, h => absurd h (by omega)
    mE := PySem.W.mg_of X G aE, mI := PySem.W.mg_none_of X G z_isinstance, mV := PySem.W.mg_none_of X G z_ValueError
    m0 := PySem.W.mg_of X G a0
    m1 := PySem.W.mg_of X G a1
    m2 := PySem.W.mg_of X G a2
    m3 := PySem.W.mg_of X G a3
    m4 := PySem.W.mg_of X G a4
    m5 := PySem.W.mg_of X G a5
    m6 := PySem.W.mg_of X G a6
    m7 := PySem.W.mg_of X G a7
    m8 := PySem.W.mg_of X G a8
    m9 := PySem.W.mg_of X G a9
    m10 := PySem.W.mg_of X G a10
    m11 := PySem.W.mg_of X G a11
    m12 := PySem.W.mg_of X G a12
    m13 := PySem.W.mg_of X G a13
    m14 := PySem.W.mg_of X G a14
    m15 := PySem.W.mg_of X G a15
    n0 := no0
    n1 := no1
    n2 := no2
    n3 := no3
    n4 := no4
  }
  have FS := fun_mk (st := sSrc) lS cS kS
  have FN := fun_mk (st := sNext) lN cN kN
  have FO := fun_mk (st := sOne) lO cO kO
  have FC := fun_mk (st := sCls) lC cC kC
  have FL := fun_mk (st := sLaw) lL cL kL
  have FI0 := fun_mk (st := sI0) lI0 cI0 kI0
  have FI1 := fun_mk (st := sI1) lI1 cI1 kI1
  have FI2 := fun_mk (st := sI2) lI2 cI2 kI2
  have FI3 := fun_mk (st := sI3) lI3 cI3 kI3
  have FI4 := fun_mk (st := sI4) lI4 cI4 kI4
  have bS := FS.binds (ps := ["_law_cell"]) fun _ _ _ _ _ _ us hl => match us, hl with | [_], _ => rfl
  have bN := FN.binds (ps := ["_law_source", "_law_many"]) fun _ _ _ _ _ _ us hl => match us, hl with | [_, _], _ => rfl
  have bO := FO.binds (ps := ["_law_source", "_law_some"]) fun _ _ _ _ _ _ us hl => match us, hl with | [_, _], _ => rfl
  have bC := FC.binds (ps := ["_law_found"]) fun _ _ _ _ _ _ us hl => match us, hl with | [_], _ => rfl
  have bI0 := FI0.binds (ps := ["self", "part"]) fun _ _ _ _ _ _ us hl => match us, hl with | [_, _], _ => rfl
  have bI1 := FI1.binds (ps := ["self", "part"]) fun _ _ _ _ _ _ us hl => match us, hl with | [_, _], _ => rfl
  have bI2 := FI2.binds (ps := ["self", "part"]) fun _ _ _ _ _ _ us hl => match us, hl with | [_, _], _ => rfl
  have bI3 := FI3.binds (ps := ["self", "at"]) fun _ _ _ _ _ _ us hl => match us, hl with | [_, _], _ => rfl
  have bI4 := FI4.binds (ps := ["self", "name"]) fun _ _ _ _ _ _ us hl => match us, hl with | [_, _], _ => rfl
  refine ⟨_, fun s v => .of_eq rfl, fun base hb1 hb2 => ok_law FL T ⟨?i0, ?i1, ?i2, ?i3, ?i4⟩ (ok_src FS (PySem.W.mg_none_of X G z_int)) kS bS (PySem.W.mg_of X G gS) (ok_one FO FN bN (PySem.W.mg_of X G gN) (PySem.W.mg_none_of X G z_len)) kO bO (PySem.W.mg_of X G gO) (ok_cls FC T) kC bC (PySem.W.mg_of X G gC) (PySem.W.mg_none_of X G z_enumerate) (PySem.W.mg_none_of X G z_range)⟩
  · exact ⟨_, ok_exinit rfl scI0 rfl rfl (by decide) (by decide) FI0 ox0 no0, bI0⟩
  · exact ⟨_, ok_exinit rfl scI1 rfl rfl (by decide) (by decide) FI1 ox1 no1, bI1⟩
  · exact ⟨_, ok_exinit rfl scI2 rfl rfl (by decide) (by decide) FI2 ox2 no2, bI2⟩
  · exact ⟨_, ok_exinit rfl scI3 rfl rfl (by decide) (by decide) FI3 ox3 no3, bI3⟩
  · exact ⟨_, ok_exinit rfl scI4 rfl rfl (by decide) (by decide) FI4 ox4 no4, bI4⟩
end Toy
open PySem PySem.W PyProof.Rows
set_option maxHeartbeats 0 in
theorem PySem.Challenge.cw_endsum_k07_refusals_apart_holds : PySem.Challenge.rw_endsum_k07_refusals_apart.Holds := by
  w_on; o_law; k_head; (case hw => w_witness2)
  k_fill
  refine L2.walk_of (l := PySem.Challenge.rw_endsum_k07_refusals_apart) (n := 63) (k := 4) (x := "_law_script") (CX := fun _ => L2.CX0) (sp := fun w => Toy.spLaw _) rfl (by decide) rfl ⟨rfl, by decide, by decide⟩ (fun w h Y => PySem.W.kIn_of Y) ?F (fun _ _ a ns hl _ hS => ⟨a, ns, rfl, hS, hl, fun _ => rfl⟩) (fun _ _ _ _ _ h => h)
  case F =>
    intro w mg fa h KX G hmg
    refine' Toy.all_mk KX G hmg ?aE ?a0 ?a1 ?a2 ?a3 ?a4 ?a5 ?a6 ?a7 ?a8 ?a9 ?a10 ?a11 ?a12 ?a13 ?a14 ?a15 ?tb ?xl0 ?rb0 ?sa0 ?ty0 ?no0 ?ii0 ?ti0 ?lI0 ?cI0 ?kI0 ?xl1 ?rb1 ?sa1 ?ty1 ?no1 ?ii1 ?ti1 ?lI1 ?cI1 ?kI1 ?xl2 ?rb2 ?sa2 ?ty2 ?no2 ?ii2 ?ti2 ?lI2 ?cI2 ?kI2 ?xl3 ?rb3 ?sa3 ?ty3 ?no3 ?ii3 ?ti3 ?lI3 ?cI3 ?kI3 ?xl4 ?rb4 ?sa4 ?ty4 ?no4 ?ii4 ?ti4 ?lI4 ?cI4 ?kI4 ?gS ?lS ?cS ?kS ?gN ?lN ?cN ?kN ?gO ?lO ?cO ?kO ?gC ?lC ?cC ?kC ?gL ?lL ?cL ?kL ?z_int ?z_len ?z_enumerate ?z_range ?z_isinstance ?z_ValueError
    (case aE => k_is)
    (case a0 => k_is)
    (case a1 => k_is)
    (case a2 => k_is)
    (case a3 => k_is)
    (case a4 => k_is)
    (case a5 => k_is)
    (case a6 => k_is)
    (case a7 => k_is)
    (case a8 => k_is)
    (case a9 => k_is)
    (case a10 => k_is)
    (case a11 => k_is)
    (case a12 => k_is)
    (case a13 => k_is)
    (case a14 => k_is)
    (case a15 => k_is)
    (case tb => kernel_rfl)
    (case xl0 => k_is)
    (case rb0 => rfl)
    (case sa0 => k_is)
    (case ty0 => k_is)
    (case no0 => k_is)
    (case ii0 => k_is)
    (case ti0 => k_is)
    (case lI0 => k_is)
    (case cI0 => k_is)
    (case kI0 => k_is)
    (case xl1 => k_is)
    (case rb1 => rfl)
    (case sa1 => k_is)
    (case ty1 => k_is)
    (case no1 => k_is)
    (case ii1 => k_is)
    (case ti1 => k_is)
    (case lI1 => k_is)
    (case cI1 => k_is)
    (case kI1 => k_is)
    (case xl2 => k_is)
    (case rb2 => rfl)
    (case sa2 => k_is)
    (case ty2 => k_is)
    (case no2 => k_is)
    (case ii2 => k_is)
    (case ti2 => k_is)
    (case lI2 => k_is)
    (case cI2 => k_is)
    (case kI2 => k_is)
    (case xl3 => k_is)
    (case rb3 => rfl)
    (case sa3 => k_is)
    (case ty3 => k_is)
    (case no3 => k_is)
    (case ii3 => k_is)
    (case ti3 => k_is)
    (case lI3 => k_is)
    (case cI3 => k_is)
    (case kI3 => k_is)
    (case xl4 => k_is)
    (case rb4 => rfl)
    (case sa4 => k_is)
    (case ty4 => k_is)
    (case no4 => k_is)
    (case ii4 => k_is)
    (case ti4 => k_is)
    (case lI4 => k_is)
    (case cI4 => k_is)
    (case kI4 => k_is)
    (case gS => k_is)
    (case lS => k_is)
    (case cS => k_is)
    (case kS => k_is)
    (case gN => k_is)
    (case lN => k_is)
    (case cN => k_is)
    (case kN => k_is)
    (case gO => k_is)
    (case lO => k_is)
    (case cO => k_is)
    (case kO => k_is)
    (case gC => k_is)
    (case lC => k_is)
    (case cC => k_is)
    (case kC => k_is)
    (case gL => k_is)
    (case lL => k_is)
    (case cL => k_is)
    (case kL => k_is)
    (case z_int => k_is)
    (case z_len => k_is)
    (case z_enumerate => k_is)
    (case z_range => k_is)
    (case z_isinstance => k_is)
    (case z_ValueError => k_is)
