import PyProof.Rows.All
import Wide.All
import OpenK.AllK
import Wide.FinOn
import KE.KExcIs
import KE.DataCmp
import HandS.ForMost
import HandS.ForExc
import HandS.ExcIs
import HandS.ExcInit
import HandS.ExcValue
import HandS.ExcField
import HandS.IsInst
import HandS.OwnEq
import HandS.Style
import HandS.TupMul
import HandS.TupAny
import HandS.Walk
import HandS.Strs
import HandS.SetKeys
import PySem.Challenge.RW_endsum_k01_stocks_made
set_option Elab.async false
set_option linter.all false
set_option maxRecDepth 100000
set_option maxHeartbeats 2000000
namespace Toy
open PySem PySem.Spec PyProof.Rows L2
/-! ### plain data in the heap -/
/-- a text of moderate length -/
def okS (x : Str) : Prop := x.length ≤ 1000 ∧ PyData.strOk x = true
mutual
inductive Dt (H : Hp) : V → PyData → Prop
  | non : Dt H .non .none
  | bl (b : Bool) : Dt H (.bl b) (.bool b)
  | int (i : Int) : Dt H (.int i) (.int i)
  | str (x : Str) : okS x → Dt H (.str x) (.str x)
  | lst {a : Addr} {xs : List V} {ds : List PyData} : H a = some (.lst xs) → xs.length ≤ 1000 → DtAll H xs ds → Dt H (.ref a) (.list ds)
  | tup {a : Addr} {xs : List V} {ds : List PyData} : H a = some (.tup xs) → xs.length ≤ 1000 → DtAll H xs ds → Dt H (.ref a) (.tuple ds)
  | dct {a : Addr} : H a = some (.dK []) → Dt H (.ref a) (.dict [])
inductive DtAll (H : Hp) : List V → List PyData → Prop
  | nil : DtAll H [] []
  | cons {v : V} {vs : List V} {d : PyData} {ds : List PyData} : Dt H v d → DtAll H vs ds → DtAll H (v :: vs) (d :: ds)
end
mutual
theorem Dt.same {H H' : Hp} (s : Same H H') : ∀ {v : V} {d : PyData}, Dt H v d → Dt H' v d
  | _, _, .non => .non
  | _, _, .bl b => .bl b
  | _, _, .int i => .int i
  | _, _, .str x h => .str x h
  | _, _, .lst e l r => .lst (s _ _ e) l (DtAll.same s r)
  | _, _, .tup e l r => .tup (s _ _ e) l (DtAll.same s r)
  | _, _, .dct e => .dct (s _ _ e)
theorem DtAll.same {H H' : Hp} (s : Same H H') : ∀ {vs : List V} {ds : List PyData}, DtAll H vs ds → DtAll H' vs ds
  | _, _, .nil => .nil
  | _, _, .cons h t => .cons (Dt.same s h) (DtAll.same s t)
end
theorem DtAll.len {H : Hp} : ∀ {vs : List V} {ds : List PyData}, DtAll H vs ds → vs.length = ds.length
  | _, _, .nil => rfl
  | _, _, .cons _ t => by
    rw [List.length_cons, List.length_cons, DtAll.len t]
theorem DtAll.at_ {H : Hp} : ∀ {vs : List V} {ds : List PyData} {i : Nat} {v : V}, DtAll H vs ds → vs[i]? = some v → ∃ d, ds[i]? = some d ∧ Dt H v d
  | _, _, i, _, .nil, e => by simp at e
  | _, _, 0, _, .cons h _, e => by
    cases e
    exact ⟨_, rfl, h⟩
  | _, _, i + 1, _, .cons _ t, e => DtAll.at_ (i := i) t e
theorem DtAll.at' {H : Hp} : ∀ {vs : List V} {ds : List PyData} {i : Nat} {d : PyData}, DtAll H vs ds → ds[i]? = some d → ∃ v, vs[i]? = some v ∧ Dt H v d
  | _, _, i, _, .nil, e => by simp at e
  | _, _, 0, _, .cons h _, e => by
    cases e
    exact ⟨_, rfl, h⟩
  | _, _, i + 1, _, .cons _ t, e => DtAll.at' (i := i) t e
theorem DtAll.app {H : Hp} : ∀ {vs ws : List V} {ds es : List PyData}, DtAll H vs ds → DtAll H ws es → DtAll H (vs ++ ws) (ds ++ es)
  | _, _, _, _, .nil, s => s
  | _, _, _, _, .cons h t, s => .cons h (DtAll.app t s)
theorem DtAll.take {H : Hp} : ∀ {vs : List V} {ds : List PyData} (n : Nat), DtAll H vs ds → DtAll H (vs.take n) (ds.take n)
  | _, _, 0, _ => .nil
  | _, _, _ + 1, .nil => .nil
  | _, _, n + 1, .cons h t => .cons h (DtAll.take n t)
theorem DtAll.drop {H : Hp} : ∀ {vs : List V} {ds : List PyData} (n : Nat), DtAll H vs ds → DtAll H (vs.drop n) (ds.drop n)
  | _, _, 0, h => h
  | _, _, _ + 1, .nil => .nil
  | _, _, n + 1, .cons _ t => DtAll.drop n t
theorem DtAll.rev {H : Hp} : ∀ {vs : List V} {ds : List PyData}, DtAll H vs ds → DtAll H vs.reverse ds.reverse
  | _, _, .nil => .nil
  | _, _, .cons h t => by
    rw [List.reverse_cons, List.reverse_cons]
    exact DtAll.app (DtAll.rev t) (.cons h .nil)
theorem DtAll.strs {H : Hp} : ∀ xs : List Str, (∀ x ∈ xs, okS x) → DtAll H (xs.map V.str) (xs.map PyData.str)
  | [], _ => .nil
  | x :: xs, h => .cons (.str x (h x List.mem_cons_self)) (DtAll.strs xs fun y hy => h y (List.mem_cons_of_mem _ hy))
mutual
def noDict : PyData → Bool
  | .dict _ => false
  | .list ds => noDicts ds
  | .tuple ds => noDicts ds
  | _ => true
def noDicts : List PyData → Bool
  | [] => true
  | d :: ds => noDict d && noDicts ds
end
mutual
theorem Dt.dp {K : PySem.W.Frag} {H : Hp} : ∀ {v : V} {d : PyData}, Dt H v d → noDict d = true → Dp K H v d
  | _, _, .non, _ => .non
  | _, _, .bl b, _ => .bl b
  | _, _, .int i, _ => .int i
  | _, _, .str x _, _ => .str x
  | _, _, .lst e _ r, n => .lst (SqL.of e) (DtAll.dp r n)
  | _, _, .tup e _ r, n => .tup (SqT.of e) (DtAll.dp r n)
  | _, _, .dct e, n => nomatch n
theorem DtAll.dp {K : PySem.W.Frag} {H : Hp} : ∀ {vs : List V} {ds : List PyData}, DtAll H vs ds → noDicts ds = true → DpAll K H vs ds
  | _, _, .nil, _ => .nil
  | _, _, .cons h t, n => by
    have n2 : (noDict _ && noDicts _) = true := n
    rw [Bool.and_eq_true] at n2
    exact .cons (Dt.dp h n2.1) (DtAll.dp t n2.2)
end
mutual
theorem Dt.can {H : Hp} : ∀ {v : V} {d : PyData}, Dt H v d → noDict d = true → d.canLay0 = true
  | _, _, .non, _ => rfl
  | _, _, .bl b, _ => rfl
  | _, _, .int i, _ => rfl
  | _, _, .str x h, _ => h.2
  | _, _, .lst e _ r, n => DtAll.can r n
  | _, _, .tup e _ r, n => DtAll.can r n
  | _, _, .dct e, n => nomatch n
theorem DtAll.can {H : Hp} : ∀ {vs : List V} {ds : List PyData}, DtAll H vs ds → noDicts ds = true → PyData.canLayAll0 ds = true
  | _, _, .nil, _ => rfl
  | _, _, .cons h t, n => by
    have n2 : (noDict _ && noDicts _) = true := n
    rw [Bool.and_eq_true] at n2
    show (PyData.canLay0 _ && PyData.canLayAll0 _) = true
    rw [Dt.can h n2.1, DtAll.can t n2.2]
    rfl
end
/-- its type -/
def tyN : PyData → String
  | .none => "NoneType"
  | .bool _ => "bool"
  | .int _ => "int"
  | .str _ => "str"
  | .list _ => "list"
  | .tuple _ => "tuple"
  | .dict _ => "dict"
theorem Dt.ty {K : PySem.W.Frag} {H : Hp} {v : V} {d : PyData} (h : Dt H v d) : TyX K H v (.type (tyN d)) := by
  cases h with
  | non => exact .base .non
  | bl b => exact .base (.bl b)
  | int i => exact .base (.int i)
  | str x _ => exact .base (.str x)
  | lst e _ _ => exact .base (.lst e)
  | tup e _ _ => exact .base (.tup e)
  | dct e => exact .base (.dK e)
/-- isinstance(v, T) of plain data -/
def rIsd (T : String) : List V → Hp → VK → Prop := fun xs H Q => ∃ (v : V) (d : PyData) (b : Bool), xs = [v, .ty T] ∧ Dt H v d ∧ kitB (tyN d) T = some b ∧ Q (.bl b) H
theorem call_isd {X : Cx} {T : String} : CallR X (.builtin "isinstance") (rIsd T) := by
  intro pins s σ H xs us Q I r h
  obtain ⟨v, d, b, rfl, hd, hb, q⟩ := h
  exact call_isi pins s σ H _ us Q I r ⟨v, .ty T, _, _, b, rfl, .ty T, hd.ty, kit_ty hb, q⟩
theorem kit_str (d : PyData) : kitB (tyN d) "str" = some (match d with | .str _ => true | _ => false) := by
  cases d <;> (dsimp only [tyN]; decide +kernel)
theorem kit_tuple (d : PyData) : kitB (tyN d) "tuple" = some (match d with | .tuple _ => true | _ => false) := by
  cases d <;> (dsimp only [tyN]; decide +kernel)
theorem kit_list (d : PyData) : kitB (tyN d) "list" = some (match d with | .list _ => true | _ => false) := by
  cases d <;> (dsimp only [tyN]; decide +kernel)
theorem kit_int (d : PyData) : kitB (tyN d) "int" = some (match d with | .int _ => true | .bool _ => true | _ => false) := by
  cases d <;> (dsimp only [tyN]; decide +kernel)
theorem kit_bool (d : PyData) : kitB (tyN d) "bool" = some (match d with | .bool _ => true | _ => false) := by
  cases d <;> (dsimp only [tyN]; decide +kernel)
end Toy
set_option Elab.async false
set_option linter.all false
set_option maxRecDepth 100000
set_option maxHeartbeats 3200000
/-! ### the keys met, each once, in the order of their first place -/
namespace Toy
section
variable {κ : Type} [DecidableEq κ]
def addMet (σ : List κ) (k : κ) : List κ := if k ∈ σ then σ else σ ++ [k]
def met (ks : List κ) : List κ := ks.foldl addMet []
theorem met_snoc (ks : List κ) (k : κ) : met (ks ++ [k]) = addMet (met ks) k := by
  unfold met
  rw [List.foldl_append]
  rfl
theorem mem_add (σ : List κ) (k j : κ) : j ∈ addMet σ k ↔ j ∈ σ ∨ j = k := by
  unfold addMet
  by_cases h : k ∈ σ
  · rw [if_pos h]
    constructor
    · exact fun q => Or.inl q
    · rintro (q | rfl)
      · exact q
      · exact h
  · rw [if_neg h, List.mem_append, List.mem_singleton]
theorem rev_ind {P : List κ → Prop} (h0 : P []) (h1 : ∀ l x, P l → P (l ++ [x])) (l : List κ) : P l := by
  have key : ∀ n (l : List κ), l.length = n → P l := by
    intro n
    induction n with
    | zero =>
      intro l hl
      rw [List.length_eq_zero_iff.mp hl]
      exact h0
    | succ n ih =>
      intro l hl
      have hne : l ≠ [] := fun e => by
        rw [e] at hl
        cases hl
      have e := List.dropLast_concat_getLast hne
      rw [← e]
      exact h1 _ _ (ih _ (by rw [List.length_dropLast, hl]; rfl))
  exact key _ l rfl
theorem mem_met (ks : List κ) (j : κ) : j ∈ met ks ↔ j ∈ ks := by
  induction ks using rev_ind with
  | h0 => exact Iff.rfl
  | h1 l x ih => rw [met_snoc, mem_add, ih, List.mem_append, List.mem_singleton]
theorem met_le (ks : List κ) : (met ks).length ≤ ks.length := by
  induction ks using rev_ind with
  | h0 => exact Nat.le_refl _
  | h1 l x ih =>
    rw [met_snoc, List.length_append, List.length_singleton]
    unfold addMet
    split
    · omega
    · rw [List.length_append, List.length_singleton]
      omega
theorem met_full (ks : List κ) : (met ks).length = ks.length ↔ ks.Nodup := by
  induction ks using rev_ind with
  | h0 => exact ⟨fun _ => List.nodup_nil, fun _ => rfl⟩
  | h1 l x ih =>
    have le := met_le l
    rw [met_snoc, List.length_append, List.length_singleton, List.nodup_append]
    unfold addMet
    by_cases h : x ∈ met l
    · rw [if_pos h]
      have hm := (mem_met l x).mp h
      constructor
      · intro e
        omega
      · rintro ⟨_, _, q⟩
        exact absurd rfl (q x hm x (List.mem_singleton.mpr rfl))
    · rw [if_neg h, List.length_append, List.length_singleton]
      have hm : x ∉ l := fun q => h ((mem_met l x).mpr q)
      constructor
      · intro e
        refine ⟨ih.mp (by omega), (by simp), fun a ha b hb => ?_⟩
        rw [List.mem_singleton.mp hb]
        intro e2
        exact hm (e2 ▸ ha)
      · rintro ⟨q, _, _⟩
        rw [ih.mpr q]
end
end Toy
namespace PySem
open PyProof.Rows Toy
section
variable {κ : Type} [DecidableEq κ] [BEq κ] [LawfulBEq κ] {prog : Program} {w : World} {A : Around} {R : Result → Shared → Prop} {I : Addr} {fp wr : List Addr} {G : Array GenState → Array GenState → Prop} {n : Nat} {P : Nat → Value → Prop} {St : Nat → Shared → Prop}
theorem toy_loop (knd : KeyKind prog w κ) (W : WalksS prog w A.in1 I fp wr G n P St) (S : Addr) (out : S ∉ fp) (ks : List κ) (hlen : ks.length = n) (room : n + 1 < scanBound)
    (hv : ∀ i v, P i v → ∃ k, ks[i]? = some k ∧ knd.is k v = true ∧ v.scannable = true) :
    ∀ (left i : Nat) (s : Shared), n - i = left → i ≤ n → St i s → s.heap.SetOf knd S (fun j => decide (j ∈ met (ks.take i))) (met (ks.take i)).length →
      (∀ s', Moved (S :: wr) G s s' → s'.heap.SetOf knd S (fun j => decide (j ∈ met ks)) (met ks).length → R (.ok (.ret .none)) s') →
      codeAny (model prog w) A (.builtin "set.update.loop" ⟨[.ref S, .ref I], []⟩) R s := by
  have outW : S ∉ wr := fun z => out (W.sub _ z)
  have more : ∀ b ∈ wr, b ∈ S :: wr := fun b z => List.mem_cons_of_mem _ z
  intro left
  induction left with
  | zero =>
    intro i s hk hi hst hS fin
    have hin : i = n := by omega
    subst hin
    refine codeAny_builtin PyProof.Rows.F.entry_set_update_loop ?_
    rw [Around.under_plainId PyProof.Rows.F.plain_set_update_loop _]
    show wpAny _ A.in1 (pyNext (.ref I) >>= _) _ _ s
    refine wpAny_bind (W.done s _ _ hst fun s' mv => ?_)
    show wpAny _ A.in1 (ret Value.none) _ _ s'
    rw [← hlen, List.take_length] at hS
    obtain ⟨o, es, ep, t, ho, others⟩ := hS
    exact wpAny_pure (fin s' (mv.mono more) ⟨o, es, ep, t, mv.heap S _ outW ho, others⟩)
  | succ left ih =>
    intro i s hk hi hst hS fin
    have lt : i < n := by omega
    refine codeAny_builtin PyProof.Rows.F.entry_set_update_loop ?_
    rw [Around.under_plainId PyProof.Rows.F.plain_set_update_loop _]
    show wpAny _ A.in1 (pyNext (.ref I) >>= _) _ _ s
    refine wpAny_bind (W.item i s _ _ lt hst fun v s' hP hst' mv => ?_)
    obtain ⟨k, hk1, hk2, hk3⟩ := hv i v hP
    have nextK : ks.take (i + 1) = ks.take i ++ [k] := by
      rw [List.take_add_one, hk1]
      rfl
    have hS' : s'.heap.SetOf knd S (fun j => decide (j ∈ met (ks.take i))) (met (ks.take i)).length := by
      obtain ⟨o, es, ep, tb, ho, others⟩ := hS
      exact ⟨o, es, ep, tb, mv.heap S _ outW ho, others⟩
    have small : (met (ks.take i)).length + 1 < scanBound := by
      have q1 := met_le (ks.take i)
      rw [List.length_take] at q1
      omega
    show wpAny _ A.in1 (holding [v] (setAdd S v) >>= _) _ _ s'
    refine wpAny_bind (wpAny_holding ?_)
    unfold setAdd
    refine wpAny_holding (wpAny_bind (knd.pyHash (k := k) hk2 ?_))
    refine wpAny_setAddHashed_of (knd := knd) (s := { s' with toks := s'.toks + 1 }) hk2 hk3 hS' small fun h' hsb hS2 => ?_
    have hSi : h'.SetOf knd S (fun j => decide (j ∈ met (ks.take (i + 1)))) (met (ks.take (i + 1))).length := by
      refine SetOf_congr hS2 (fun j => ?_) ?_
      · rw [nextK, met_snoc]
        by_cases e1 : j ∈ met (ks.take i)
        · rw [decide_eq_true e1, decide_eq_true ((mem_add _ _ _).mpr (Or.inl e1))]
          rfl
        · by_cases e2 : j = k
          · rw [decide_eq_true e2, decide_eq_true ((mem_add _ _ _).mpr (Or.inr e2)), Bool.or_true]
          · rw [decide_eq_false e1, decide_eq_false e2, decide_eq_false (fun z => ((mem_add _ _ _).mp z).elim e1 e2)]
            rfl
      · rw [nextK, met_snoc]
        unfold addMet
        by_cases e1 : k ∈ met (ks.take i)
        · rw [if_pos e1, if_pos (decide_eq_true e1)]
        · rw [if_neg e1, if_neg (by rw [decide_eq_false e1]; exact Bool.false_ne_true), List.length_append, List.length_singleton]
    refine wpAny_pure ⟨plainId_quiet PyProof.Rows.F.plain_set_update_loop _, ih (i + 1) _ (by omega) lt (W.frame _ s' _ _ hst' (Nat.le_succ _) fun b hb o e => ?_) hSi fun s2 mv2 hS3 => ?_⟩
    · rw [hsb.2 b (fun z : b = S => out (by rw [← z]; exact hb))]
      exact e
    · refine fin s2 (Moved.trans W.gtrans ((mv.mono more).then_heap (Nat.le_succ _) fun b o hb e => ?_) mv2) hS3
      rw [hsb.2 b (fun z : b = S => hb (by rw [z]; exact List.mem_cons_self))]
      exact e
end
section
variable {κ : Type} [DecidableEq κ] [BEq κ] [LawfulBEq κ] {prog : Program} {w : World} {A : Around} {E : Value → Shared → Prop} {s : Shared}
abbrev set0 (led : Bool) : Obj := { cls := .type "set", dict := none, data := .set #[] 0 (.fresh 0 0 led) }
theorem toy_set (knd : KeyKind prog w κ) {l : Addr} {items : Array Value} {ks : List κ} {Q : Value → Shared → Prop} (hh : A.handled = none) (hl : s.heap.IsList l items) (hlen : ks.length = items.size) (room : items.size + 1 < scanBound)
    (hv : ∀ (i : Nat) v, items[i]? = some v → ∃ k, ks[i]? = some k ∧ knd.is k v = true ∧ v.scannable = true)
    (h : ∀ (h' : Heap) (tk : Nat), h'.SetOf knd s.heap.objs.size (fun j => decide (j ∈ met ks)) (met ks).length →
      (∀ b o, b < s.heap.objs.size → s.heap.get? b = some o → h'.get? b = some o) → Q (.ref s.heap.objs.size) { s with heap := h', toks := tk }) :
    wpAny (model prog w) A (call (.type "set") [.ref l]) Q E s := by
  obtain ⟨c, tl, hmro⟩ := PySem.F.called_set.mro
  have hmade := PySem.F.called_set.made
  have hsub := PySem.F.called_set.sub
  refine wpAny_call (codeAny_of_tree ?_)
  show wpAny _ _ (callAny (.type "set") _) _ _ _
  refine wpAny_pure ⟨Code.quiet_builtin _ (by decide +kernel), codeAny_builtin PySem.F.entry_type_call ?_⟩
  rw [Around.under_plain (weight_type_call_type "set" [.ref l] []) rfl]
  have g1 := PySem.F.called_set.notType
  have g2 := PySem.F.called_set.canCreate
  have g3 := PySem.F.typeCall_set_1 (.ref l)
  repeat (any_goals (first | assumption | wp_step))
  refine codeAny_mono (code_set_new_1 (.ref l) (E := E) (Q₁ := fun ob sA => ∃ led : Bool, ob = .ref s.heap.objs.size ∧ sA = { s with heap := s.heap.push { cls := .type "set", dict := none, data := .set #[] 0 (.fresh 0 0 led) } }) fun led => ⟨led, rfl, rfl⟩) fun r sA hr => ?_
  match r, hr with
  | .error e, hr => exact hr
  | .ok .next, hr => exact hr.elim
  | .ok .brk, hr => exact hr.elim
  | .ok .cont, hr => exact hr.elim
  | .ok (.ret ob), hr =>
    obtain ⟨led, rfl, rfl⟩ := hr
    have hS : (s.heap.push (set0 led)).get? s.heap.objs.size = some (set0 led) := Heap.get?_push_size _ rfl
    have hT : Shared.TypeIs { s with heap := s.heap.push (set0 led) } (.ref s.heap.objs.size) "set" := ⟨_, hS, rfl⟩
    have g4 := PySem.F.called_set.init.lookup
    have g5 := PySem.F.called_set.init.bind (.ref s.heap.objs.size)
    repeat (any_goals (first | assumption | wp_step))
    refine codeAny_mono (codeAny_call_builtin (R := wants (fun r s₂ => r = .none ∧ ∃ h' tk, s₂ = { s with heap := h', toks := tk } ∧ h'.SetOf knd s.heap.objs.size (fun j => decide (j ∈ met ks)) (met ks).length ∧
        (∀ b o, b < s.heap.objs.size → s.heap.get? b = some o → h'.get? b = some o)) E) PySem.F.called_set.init.plain PySem.F.entry_set_init (check_set_init_1 hT ?_)) fun r₂ s₂ hr₂ => ?_
    · obtain ⟨ol, hol, hcl, nl, hdl⟩ := hl
      obtain ⟨oc, odi, oda, osl⟩ := ol
      simp only at hcl hdl
      subst hcl hdl
      have hol' : (s.heap.push (set0 led)).get? l = some { cls := .type "list", dict := odi, data := .seq items nl, slots := osl } := Heap.get?_push_of_some _ hol
      have g6 := PySem.F.sub_list_set
      have g7 := PySem.F.sub_list_frozenset
      have g8 : (Value.type "list" == Value.type "dict") = false := by decide
      have hl1 : (s.heap.push (set0 led)).IsList l items := ⟨_, hol', rfl, nl, rfl⟩
      unfold Builtin.«set.__init__» noKeywords Builtin.Frozenset.updateFrom
      generalize hPI : pyIter = PI
      wp_walk
      subst hPI
      refine wpAny_pyIter_list hl1 ?_
      refine wpAny_bind (wpAny_runValue ?_)
      have lS : l < s.heap.objs.size := Heap.lt_size hol
      have hh3 : A.in1.in1.in1.handled = none := by simp [hh]
      have nI : l ≠ (s.heap.push (set0 led)).objs.size := by
        rw [Heap.size_push]
        exact Nat.ne_of_lt (Nat.lt_succ_of_lt lS)
      have nS : s.heap.objs.size ∉ [(s.heap.push (set0 led)).objs.size, l] := by
        rw [Heap.size_push]
        simp only [List.mem_cons, List.mem_singleton, List.not_mem_nil, or_false, not_or]
        exact ⟨Nat.ne_of_lt (Nat.lt_succ_self _), Nat.ne_of_gt lS⟩
      refine toy_loop knd ((Walks.list hh3 _ l nI items).toS) s.heap.objs.size nS ks hlen room hv (items.size - 0) 0 _ (by omega) (Nat.zero_le _) ⟨⟨_, Heap.get?_push_size _ rfl, rfl, rfl⟩, (hl1.push _)⟩ ?start0 ?done0
      case start0 =>
        have there : ((s.heap.push (set0 led)).push { cls := .type "list_iterator", data := .fields #[.ref l, .int 0 0] }).get? s.heap.objs.size = some (set0 led) := Heap.get?_push_of_some _ hS
        exact SetOf_congr ((setObjOf_fresh (knd := knd) led).setOf there (by unfold scanBound; omega)) (fun _ => rfl) rfl
      case done0 =>
        intro s' mv hS'
        obtain ⟨h', g', d', tk', os'⟩ := s'
        have eg : g' = s.gens := mv.gens
        have ed : d' = s.drawn := mv.drawn
        have eo : os' = s.os := mv.os
        subst eg ed eo
        refine wpAny_pure ?_
        show wpAny _ _ (ret Value.none) _ _ _
        refine wpAny_pure ⟨rfl, h', tk', rfl, hS', fun b o hb e => ?_⟩
        have n1 : b ≠ s.heap.objs.size := Nat.ne_of_lt hb
        have n2 : b ≠ (s.heap.push (set0 led)).objs.size := by
          rw [Heap.size_push]
          exact Nat.ne_of_lt (Nat.lt_succ_of_lt hb)
        exact mv.heap b o (by simp only [List.mem_cons, List.mem_singleton, List.not_mem_nil, or_false, not_or]; exact ⟨n1, n2⟩) (Heap.get?_push_of_some _ (Heap.get?_push_of_some _ e))
    · match r₂, hr₂ with
      | .error e, hr₂ => exact hr₂
      | .ok .next, hr₂ => exact hr₂.elim
      | .ok .brk, hr₂ => exact hr₂.elim
      | .ok .cont, hr₂ => exact hr₂.elim
      | .ok (.ret r), hr₂ =>
        obtain ⟨rfl, h', tk, rfl, hS', hk'⟩ := hr₂
        repeat (any_goals (first | assumption | wp_step))
        exact h _ _ hS' hk'
end
end PySem
set_option Elab.async false
set_option linter.all false
set_option maxRecDepth 100000
set_option maxHeartbeats 3200000
namespace L2
open PySem PySem.Spec PyProof.Rows Toy
section
variable {X : Cx}
theorem strs_vals : ∀ {xs : List Str} {us : List Value}, Vals (xs.map V.str) us → xs.length = us.length ∧ ∀ (i : Nat) v, us[i]? = some v → ∃ x t, xs[i]? = some x ∧ v = Value.str x t
  | [], _, .nil => ⟨rfl, fun i v e => by simp at e⟩
  | x :: xs, _, .cons r t => by
    obtain ⟨k, rfl⟩ := r
    obtain ⟨h1, h2⟩ := strs_vals t
    refine ⟨by rw [List.length_cons, List.length_cons, h1], fun i v e => ?_⟩
    cases i with
    | zero =>
      cases e
      exact ⟨x, k, rfl, rfl⟩
    | succ i => exact h2 i v e
/-- len(set(xs)), xs a list of texts -/
def tLenMet (K : PySem.W.Frag) (ta : TE) : TE := fun σ H Q => ta σ H fun x H1 => ∃ (l : Addr) (xs : List Str), x = .ref l ∧ SqL K H1 l (xs.map V.str) ∧ xs.length ≤ 100 ∧ Q (.int (met xs).length) H1
theorem pe_lenMet {a : Expr} {ta : TE} {p p2 q pos : Pos} (hc : X.calm = true) (hg : Gl X "len") (hm : X.mg "len" = none) (hg2 : Gl X "set") (hm2 : X.mg "set" = none) (ha : PE X a ta)
    (na : starEach [a] X.env = (false, eval a X.env) :: starEach [] X.env := by rfl) : PE X (.Call (.Name "len" p) [.Call (.Name "set" p2) [a] [] q] [] pos) (tLenMet X.K ta) := by
  refine ⟨fun pins s σ H Q I h => ?_⟩
  refine Call_ (ld_blt I hg hm PySem.boot_len ?_)
  refine PyProof.Rows.callWith_builtin1 (PyProof.Rows.args_cons ?_ rfl) rfl rfl
  refine Call_ (ld_blt I hg2 hm2 PyProof.Rows.boot_set ?_)
  refine PyProof.Rows.callWith_type1 (PyProof.Rows.args_cons (thn (ha.run pins s σ H _ I h) fun v s1 ⟨x, H1, I1, r1, q1⟩ => PyProof.Rows.args_nil ?_) na) na rfl
  obtain ⟨l, xs, rfl, hq, h100, q1⟩ := q1
  cases r1
  obtain ⟨its, r, pl, hz⟩ := I1.list hq
  obtain ⟨len1, vals1⟩ := strs_vals r
  have size1 : its.toArray.size = xs.length := by rw [List.size_toArray, len1]
  refine PySem.toy_set (PySem.strKind X.prog X.w) (I1.ok.hd hc) pl.isList size1.symm (by rw [size1]; unfold scanBound; omega) (fun i v e => ?_) fun h' tk hS hk => ?_
  · obtain ⟨x, t, e1, rfl⟩ := vals1 i v (by rw [← Array.getElem?_toList] at e; exact e)
    exact ⟨x, e1, PySem.strKind_is _ _ _ _, rfl⟩
  · refine PyProof.Rows.args_nil ?_
    have le := met_le xs
    obtain ⟨o, es, ep, t, ho, hex, hd, _, _, _, hf, hn⟩ := hS
    have I2 : Inv X pins σ H1 { s1 with heap := h', toks := tk } := I1.kept fun b o e => hk b o (Heap.lt_size e) e
    exact call_len_set ho hex hd hf (by rw [hn]; omega) ⟨.int (met xs).length, H1, I2.tok _, ⟨_, by rw [hn]⟩, q1⟩
end
end L2
namespace PyProof.Rows
open PySem
section
variable {prog : Program} {w : World} {A : Around} {E : Value → Shared → Prop} {s : Shared}
/-- what an iterable tuple is collected to -/
theorem toy_collect {l : Addr} {vs : List Value} {Q : List Value → Shared → Prop} (hl : s.heap.IsTuple l vs.toArray)
    (h : Q vs { s with heap := (s.heap.push (seqObj "list" #[] 0)).update s.heap.objs.size (Obj.mapSeq (· ++ vs.toArray)) }) (hsz : vs.length ≤ sizeLine) : wpAny (model prog w) A (collect (.ref l)) Q E s := by
  obtain ⟨o, ho, hc, n, hd⟩ := id hl
  unfold collect
  refine wpAny_bind (wpAny_runValue (codeAny_builtin entry_proto_collect' ?_))
  show wpAny _ _ (do again (.builtin "list.__iadd__" ⟨[← newList [], .ref l], []⟩)) _ _ s
  refine wpAny_bind (wpAny_newList (wpAny_pure ⟨Code.quiet_builtin _ (by decide +kernel), codeAny_builtin entry_list_iadd' ?_⟩))
  show wpAny _ _ (Builtin.List.listExtendWith (.ref s.heap.objs.size) (.ref l) (.ref s.heap.objs.size)) _ _ { s with heap := s.heap.push (seqObj "list" #[] 0) }
  unfold Builtin.List.listExtendWith
  have ho' : (s.heap.push (seqObj "list" #[] 0)).get? l = some o := Heap.get?_push_of_some _ ho
  refine wpAny_bind (wpAny_typeOf (T := "tuple") ⟨o, ho', hc⟩ ?_)
  have isT : (Value.type "tuple" == Value.type "tuple") = true := by rfl
  rw [if_pos (by rw [isT]; simp)]
  refine wpAny_bind (listItems_at ho' hd ?_)
  refine wpAny_bind (listItems_at (xs := #[]) (n := 0) (Heap.get?_push_size _ rfl) rfl ?_)
  rw [if_neg (by simp)]
  refine wpAny_bind (listUpdate_at (xs := #[]) (n := 0) (Heap.get?_push_size _ rfl) rfl ?_ (Nat.zero_le _) (by show (#[] ++ vs.toArray).size ≤ sizeLine + 1; simp only [Array.size_append, List.size_toArray, List.length_nil]; omega))
  refine wpAny_pure ?_
  show wpAny (model prog w) A (do
      let o ← load s.heap.objs.size
      match o.data with
      | .seq xs _ => pure xs.toList
      | _ => unsupported "internal:collect") Q E { s with heap := (s.heap.push (seqObj "list" #[] 0)).update s.heap.objs.size (Obj.mapSeq (· ++ vs.toArray)) }
  refine wpAny_bind (wpAny_load (get?_update_seq (Heap.get?_push_size _ rfl) _) ?_)
  show wpAny _ _ (pure ((#[] : Array Value) ++ vs.toArray).toList) Q E _
  have same : ((#[] : Array Value) ++ vs.toArray).toList = vs := by simp
  rw [same]
  exact wpAny_pure h
theorem toy_sortedT {κ : PyProof.Rows.KeyKind} (hO : κ.OneLt) {l : Addr} {vs : List Value} {Q : Value → Shared → Prop} (hl : s.heap.IsTuple l vs.toArray) (h0 : KeysOf κ (pairsOf vs))
    (hkk : ∀ v₁ v₂ rest, vs = v₁ :: v₂ :: rest → keyKind' (v₁ :: v₂ :: rest).toArray = pure oneType') (h64 : vs.length < 64)
    (h : ∀ st' : SortSt, (arrOf st').Perm (pairsOf vs) → SortedToK κ (arrOf st') (pairsOf vs).size → Q (.ref (s.heap.objs.size + 1)) { s with heap := sortedAll s.heap vs ((arrOf st').map (·.2)) }) :
    wpAny (model prog w) A (call (.builtin "sorted") [.ref l]) Q E s := by
  refine Calls.call_function_entry kind_sorted plain_sorted entry_sorted (args_sorted1 _) ?_
  unfold Builtin.«sorted»
  refine wpAny_bind (m := checkCount "sorted" 1 1 _) (wpAny_pure (wpAny_bind (toy_collect hl (wpAny_bind (wpAny_newList ?_)) (by rw [sizeLine_eq]; omega))))
  have sz : ((s.heap.push (seqObj "list" #[] 0)).update s.heap.objs.size (Obj.mapSeq (· ++ vs.toArray))).objs.size = s.heap.objs.size + 1 := by
    rw [Heap.size_update, size_push']
  have hoL : (((s.heap.push (seqObj "list" #[] 0)).update s.heap.objs.size (Obj.mapSeq (· ++ vs.toArray))).push (seqObj "list" vs.toArray 0)).get? (s.heap.objs.size + 1) = some (seqObj "list" vs.toArray 0) := by
    rw [← sz]
    exact Heap.get?_push_size _ rfl
  show wpAny _ _ _ _ _ { s with heap := ((s.heap.push (seqObj "list" #[] 0)).update s.heap.objs.size (Obj.mapSeq (· ++ vs.toArray))).push (seqObj "list" vs.toArray 0) }
  rw [sz]
  exact wpAny_bind (wpAny_holding (wpAny_call_entry slot_list_sort ⟨_, hoL, rfl⟩ entry_list_sort (list_sort_treeK hO hoL h0 hkk h64 fun st' a1 a2 => ⟨_, rfl, wpAny_pure ⟨_, rfl, h st' a1 a2⟩⟩) (args_list_sort _)))
end
end PyProof.Rows
namespace L2
open PySem PySem.Spec PyProof.Rows Toy
section
variable {X : Cx}
/-- sorted(t), t a tuple of texts -/
def rSortTS (K : PySem.W.Frag) : List V → Hp → VK → Prop := fun vs H Q => ∃ (a : Addr) (xs : List Str), vs = [V.ref a] ∧ SqT K H a (xs.map V.str) ∧ xs.length < 64 ∧
  ∀ (ys : List Str) (p : Addr), ys.Perm xs → sortedS ys = true → H p = none → Q (.ref p) (upd H p (.lst (ys.map V.str)))
theorem cr_sortTS : CallR X (.builtin "sorted") (rSortTS X.K) := by
  intro pins s σ H xs us Q I r h
  obtain ⟨a, xs, rfl, hs, h64, q⟩ := h
  obtain ⟨its, rv, hl, _⟩ := I.tuple hs
  rw [Vals.ref1 r]
  have len1 := rv.length
  rw [List.length_map] at len1
  have hS := rv.strs
  refine toy_sortedT strKind_oneLt hl hS.keysOf (fun v₁ v₂ rest e => keyKind_strs (by rw [← e]; exact hS)) (by rw [← len1]; exact h64) fun st' hp hsd => ?_
  obtain ⟨ys, h1, h2, h3⟩ := sorted_out_str hS hp hsd
  obtain ⟨ep, at_⟩ := PyProof.Rows.sortedAll_at s.heap its ((arrOf st').map (·.2))
  have small : (ys.map V.str).length ≤ sizeLine := by
    rw [List.length_map, h2.length_eq]
    exact small64 h64
  exact ⟨.ref _, upd H (s.heap.objs.size + 1) (.lst (ys.map V.str)), I.laid (t' := s.toks) (fun _ _ => PyProof.Rows.sortedAll_old) (Nat.le_succ _) ⟨small, _, ep, vals_of_strs h1, at_⟩, rfl, q ys _ h2 h3 (I.hok.fresh (Nat.le_succ _))⟩
end
end L2
set_option Elab.async false
set_option linter.all false
set_option maxRecDepth 100000
set_option maxHeartbeats 3200000
namespace PySem.W
open PySem PySem.Spec PySem.Calls PyProof.Rows
section
variable {prog : Program} {w : World} {A : Around} {E : Value → Shared → Prop} {s : Shared} {K : Frag} {x C f L : Addr} {h₀ : Heap} {m : Str → Option Value} {ox : Obj} {od : Option Obj} {b tb : Value}
theorem toy_in1 (A : Around) : A.in1.units ≤ A.units + 1 := by
  first | exact Nat.le_refl _ | exact Nat.le_succ _ | simp [Around.in1]
/-- x != b by x's own __eq__ -/
theorem toy_ne {Q : Value → Shared → Prop} (hu : A.units + 1 < cLine) (X : K.In s.heap) (I : InstAt s.heap x ox C od) (hb : Looks (model prog w) s.heap (typeOf b) tb) (hn : notFirst K C tb = true)
    (hs : findIn K (.ref C) "__eq__" = some (some (.ref f))) (hf : isFn K (.ref f) = true) (hne : findIn K (.ref C) "__ne__" = some (some (.builtin "object.__ne__"))) (hm : mroIn K C (.type "object") = some true)
    (h : wpAny (model prog w) A.in1 (call (.ref f) [.ref x, b]) (fun v s' => ∃ r, v = .bool r ∧ Q (.bool (!r)) s') E s) : wpAny (model prog w) A (richCompare .NotEq (.ref x) b) Q E s := by
  have sub : Looks (model prog w) s.heap (isInstance (.ref x) (.type "object")) true := I.type.andThen (looks_mroIn X hm)
  have body : wpAny (model prog w) A.in1 (Builtin.«object.__ne__» ⟨[.ref x, b], []⟩) (GQ.FinOf prog w A (wants (fun v s' => v ≠ .notImplemented ∧ Q v s') E)) (fun e s' => wants (fun v s' => v ≠ .notImplemented ∧ Q v s') E (.error e) s') s := by
    unfold Builtin.«object.__ne__»
    refine wpAny_bind (wpAny_of_eq (a := ((Value.ref x : Value), [b])) (by first | rfl | (simp only [slotArgs]; rfl)) ?_)
    refine wpAny_bind (wpAny_cRoomFor (Nat.lt_of_le_of_lt (toy_in1 A) hu) ?_)
    refine wpAny_bind (ifBound_K X I hs hf (wpAny_mono h (fun v s' hv => ?_) fun _ _ e => e))
    obtain ⟨r, rfl, q⟩ := hv
    show wpAny _ _ (do let t ← truthy (.bool r); ret (.bool (!t))) _ _ _
    exact wpAny_bind (wpAny_truthy_bool (wpAny_pure ⟨(fun z => nomatch z), q⟩))
  have one : wpAny (model prog w) A (tryCompare (.ref x) "__ne__" b) (fun r s' => ∃ v, r = some v ∧ Q v s') E s := by
    unfold tryCompare callSpecialIfBound? bindSpecialIfBound?
    have called : wpAny (model prog w) A (call (.builtin "object.__ne__") [.ref x, b]) (fun v s' => v ≠ .notImplemented ∧ Q v s') E s :=
      wpAny_call (codeAny_call_builtin PySem.F.cmp_object.ne.plain PySem.F.cmpEntry_ne (check_slot PySem.F.cmpKind_ne PySem.F.cmpSplit_ne sub (PySem.F.cmpArgs_ne (.ref x) b) body))
    have fin : ∀ {R : Option Value → Shared → Prop}, (∀ v s', v ≠ .notImplemented → Q v s' → R (some v) s') → wpAny (model prog w) A (call (.builtin "object.__ne__") ([.ref x] ++ [b]) >>= fun v => pure (some v)) R E s :=
      fun hR => wpAny_bind (wpAny_mono called (fun v s' hv => wpAny_pure (hR v s' hv.1 hv.2)) fun _ _ e => e)
    have back : ∀ v s', v ≠ Value.notImplemented → Q v s' → wpAny (model prog w) A (match (some v : Option Value) with | some .notImplemented => pure none | none => pure none | some v => pure (some v)) (fun r s' => ∃ v, r = some v ∧ Q v s') E s' := fun v s' n q => by
      cases v <;> first | exact absurd rfl n | exact wpAny_pure ⟨_, rfl, q⟩
    refine wpAny_bind (wpAny_holding (wpAny_bind (wpAny_bind (wpAny_bind (I.type.here ((looks_findIn X hne).here ?_))))))
    refine wpAny_bind (wpAny_askSetting (wpAny_ite ?_))
    have bd : bindSpecial (.builtin "object.__ne__") (.ref x) = pure (.builtin "object.__ne__", [.ref x]) := PySem.F.cmp_object.ne.bind (.ref x)
    rw [bd]
    split
    · exact wpAny_bind (wpAny_pure (wpAny_pure (by exact fin back)))
    · exact wpAny_tryCatch (wpAny_bind (wpAny_pure (wpAny_pure (by exact fin back))))
  unfold richCompare
  simp only [oneThing_ref, cmpInfo_NotEq]
  refine wpAny_holding (wpAny_bind (wpAny_cRoomFor (by omega) (wpAny_bind (I.type.here (wpAny_bind (hb.here ?_))))))
  split
  · rename_i q
    have e : subIn K tb (.ref C) = some false := by
      rcases Bool.or_eq_true_iff.mp hn with e | e
      · rw [beq_iff_eq.mp e] at q
        simp at q
      · exact beq_iff_eq.mp e
    refine wpAny_bind ((looks_subIn X e).here ?_)
    simp only [Bool.false_eq_true, if_false]
    refine wpAny_bind (wpAny_mono one (fun r s' z => ?_) fun _ _ e => e)
    obtain ⟨v, rfl, hq⟩ := z
    exact wpAny_pure hq
  · refine wpAny_bind (wpAny_pure ?_)
    simp only [Bool.false_eq_true, if_false]
    refine wpAny_bind (wpAny_mono one (fun r s' z => ?_) fun _ _ e => e)
    obtain ⟨v, rfl, hq⟩ := z
    exact wpAny_pure hq
end
end PySem.W
namespace L2
open PySem PySem.Spec PyProof.Rows Toy
section
variable {X : Cx}
/-- a == y, a an instance of the class at C with an own __eq__ -/
def rEqO (K : PySem.W.Frag) (C : Addr) (sp : Sp) (E : XK) (neg : Bool) : R2 := fun x y H Q => ∃ (a dx : Addr) (fs : List (Str × V)) (t : Value), x = .ref a ∧ H a = some (.ins C dx fs) ∧ TyX K H y t ∧ PySem.W.notFirst K C t = true ∧
  sp [x, y] H (fun v H' => ∃ b, v = .bl b ∧ Q (.bl (if neg then !b else b)) H') E
/-- what the class must say of == and != -/
structure EqC (K : PySem.W.Frag) (C f : Addr) : Prop where
  eq : PySem.W.findIn K (.ref C) "__eq__" = some (some (.ref f))
  fn : PySem.W.isFn K (.ref f) = true
  ne : PySem.W.findIn K (.ref C) "__ne__" = some (some (.builtin "object.__ne__"))
  ob : PySem.W.mroIn K C (.type "object") = some true
variable {CXq : CXT} {C f : Addr} {k : Nat} {fd : FuncData} {ps : List Str} {sp : Sp} {E : XK}
theorem op_eqO (T : EqC X.K C f) (F : FnOk X.prog X.w X.K X.mg X.base CXq k f fd ps sp) (hr : Room k X.A) (hb : Binds X.K fd ps []) (hx : Passes CXq X E) : OpR X (compareOp .Eq) (rEqO X.K C sp E false) := by
  intro pins s σ H x y v u Q I rx ry h
  obtain ⟨a, dx, fs, t, rfl, ha, ty, hn, hsp⟩ := h
  obtain rfl : v = Value.ref a := rx
  obtain ⟨mA, J, _⟩ := ins_get I.hok ha
  obtain ⟨od, J, _⟩ := J.look
  obtain ⟨Pq, Z, pq, _⟩ := kit_of I ry ty
  obtain ⟨m, fr⟩ := I.fr
  show wpAny (model X.prog X.w) X.A (richCompare .Eq (.ref a) u) (EP X pins σ Q) X.xe s
  refine PySem.W.cmp_K (op := .Eq) (tb := t) hr.units0 fr I.ok.mod.kin J (Z.ty _ _ I.kIn pq) hn T.eq T.fn ?_
  have hl := F.len _ _ _ _ hsp
  have r2 : Vals [V.ref a, y] [Value.ref a, u] := .cons rfl (.cons ry .nil)
  have bnd := hb s [.ref a, u] I.kIn (by rw [List.append_nil, ← hl]; rfl)
  rw [List.append_nil] at bnd
  refine wpAny_call (codeAny_mono (F.run X.A X.stack s H ⟨[.ref a, u], []⟩ _ _ _ E hr I.env0 bnd r2 hsp) fun r s' hq => ?_)
  match r, hq with
  | .error e, hq => exact hx pins σ H s e s' I hq
  | .ok .next, hq => exact hq.elim
  | .ok .brk, hq => exact hq.elim
  | .ok .cont, hq => exact hq.elim
  | .ok (.ret z), hq =>
    obtain ⟨v2, H', J', rz, b, rfl, q⟩ := I.after hq
    obtain rfl : z = Value.bool b := rz
    exact ⟨.bl b, H', J', rfl, q⟩
theorem op_neO (T : EqC X.K C f) (F : FnOk X.prog X.w X.K X.mg X.base CXq k f fd ps sp) (hr : Room (k + 1) X.A) (hb : Binds X.K fd ps []) (hx : ∀ pins σ H s e s', L2.Inv X pins σ H s → CXq X.stack H s E e s' → X.xe e s') : OpR X (compareOp .NotEq) (rEqO X.K C sp E true) := by
  intro pins s σ H x y v u Q I rx ry h
  obtain ⟨a, dx, fs, t, rfl, ha, ty, hn, hsp⟩ := h
  obtain rfl : v = Value.ref a := rx
  obtain ⟨mA, J, _⟩ := ins_get I.hok ha
  obtain ⟨od, J, _⟩ := J.look
  obtain ⟨Pq, Z, pq, _⟩ := kit_of I ry ty
  show wpAny (model X.prog X.w) X.A (richCompare .NotEq (.ref a) u) (EP X pins σ Q) X.xe s
  refine PySem.W.toy_ne (tb := t) (by have := hr.units; omega) I.kIn J (Z.ty _ _ I.kIn pq) hn T.eq T.fn T.ne T.ob ?_
  have hl := F.len _ _ _ _ hsp
  have r2 : Vals [V.ref a, y] [Value.ref a, u] := .cons rfl (.cons ry .nil)
  have bnd := hb s [.ref a, u] I.kIn (by rw [List.append_nil, ← hl]; rfl)
  rw [List.append_nil] at bnd
  refine wpAny_call (codeAny_mono (F.run X.A.in1 X.stack s H ⟨[.ref a, u], []⟩ _ _ _ E hr.in1 I.env0.in1 bnd r2 hsp) fun r s' hq => ?_)
  match r, hq with
  | .error e, hq => exact hx pins σ H s e s' I hq
  | .ok .next, hq => exact hq.elim
  | .ok .brk, hq => exact hq.elim
  | .ok .cont, hq => exact hq.elim
  | .ok (.ret z), hq =>
    obtain ⟨v2, H', J', rz, b, rfl, q⟩ := I.after hq
    obtain rfl : z = Value.bool b := rz
    exact ⟨b, rfl, .bl (!b), H', J', rfl, q⟩
end
end L2
set_option Elab.async false
set_option linter.all false
set_option maxRecDepth 100000
set_option maxHeartbeats 3200000
namespace L2
open PySem PySem.Spec PyProof.Rows Toy
/-- what the first clause 'except x as n' wishes, further clauses behind it: it is the one that catches -/
def wFirst (K : PySem.W.Frag) (c : Value) (i : Nat) (ts : Addr → Value → Option Addr → TS) (D : Ends) : WX := fun cls d σ H =>
  PySem.W.exmOne K cls c = some true ∧ ∀ a, H a = none → ts a cls d ⟨fun σ1 H1 => D.nx (σ1.set i none) H1, D.rt, fun σ1 H1 => D.bk (σ1.set i none) H1, fun σ1 H1 => D.ct (σ1.set i none) H1⟩ (σ.set i (some (.ref a))) H
section
variable {X : Cx} {x n : Str} {c : Value} {i : Nat} {body suite : List Stmt} {b₀ : Stmt} {np pos pos' : Pos} {tb : WX → TS} {ts : Addr → Value → Option Addr → TS} {rest : List ExceptHandler}
theorem ps_try_first (hs : X.stack = X.env :: X.outer) (hf : X.env.frame = some X.env.locals) (hN : X.N.Nodup) (hi : X.N[i]? = some n) (hln : X.env.kindOf n = some .local) (hc : Names X x c)
    (hb : ∀ (W : WX) (pn : List (Addr × Obj)) (xe : Value → Shared → Prop), Takes (X.tr pn xe) W → PassesOwn (model X.prog X.w) X.A X.env xe → PSs (X.tr pn xe) body (tb W))
    (hsu : ∀ (a : Addr) (oe : Obj) (cls : Value) (d : Option Addr) (pn : List (Addr × Obj)), Zc cls d oe → (∃ vs, oe.data = .fields vs) → PSs (X.suite a ((a, oe) :: pn)) (b₀ :: suite) (ts a cls d)) :
    PS X (.Try body (.ExceptHandler (some (.Name x np)) (some n) (b₀ :: suite) pos' :: rest) [] [] pos) (fun D σ H => tb (wFirst X.K c i ts D) D σ H) := by
  refine ⟨fun pins s σ H D I h => ?_⟩
  have okX := I.ok
  have frames : X.A.frames = some (X.env :: X.outer) := by rw [okX.frames, hs]
  refine wpAny_Try_except ?_
  have caught : ∀ (u : Value) (s' : Shared), XE (X.tr (X.pn ++ pins) fun e s₁ => wpAny (model X.prog X.w) X.A (noteFrame e X.env) (fun _ s₂ => wpAny (model X.prog X.w) X.A (setFlight e none) (fun _ s₃ =>
      wpAny (model X.prog X.w) X.A (handleBy e X.env (.ExceptHandler (some (.Name x np)) (some n) (b₀ :: suite) pos' :: rest)) (SP X pins D) X.xe s₃) X.xe s₂) X.xe s₁) (wFirst X.K c i ts D) u s' →
      wpAny (model X.prog X.w) X.A (noteFrame u X.env) (fun _ s₂ => wpAny (model X.prog X.w) X.A (setFlight u none) (fun _ s₃ =>
      wpAny (model X.prog X.w) X.A (handleBy u X.env (.ExceptHandler (some (.Name x np)) (some n) (b₀ :: suite) pos' :: rest)) (SP X pins D) X.xe s₃) X.xe s₂) X.xe s' := by
    rintro u s' ⟨a, B, sI, pinsI, σI, HI, cls, d, rfl, Jtry, nb, up, sky, na, os, ag, match_, run⟩
    have J := Jtry.ofTry okX
    have skyX : Sky B (X.env :: X.outer) a (Zc cls d) X.env.locals s'.heap := by
      rw [← hs]
      exact sky
    refine Sky.land Zc.steady frames hf skyX fun h3 fly3 up3 => ?_
    have J3 : Inv X pins σI HI { s' with heap := h3 } := J.landed nb fly3.1 (up.trans up3) os ag
    obtain ⟨o3, v3, at3, z3, f3⟩ := fly3.there
    have away : a ∉ frs (X.env :: X.outer) := fun hm => by
      obtain ⟨_, o', e', hnf⟩ := fly3.2.2.1.mem hm
      rw [at3] at e'
      cases e'
      exact hnf _ f3
    have awayL : a ≠ X.env.locals := fun z => away (List.mem_filterMap.mpr ⟨X.env, List.mem_cons_self, by rw [hf, z]⟩)
    have awayF : a ∉ X.fs := fun hm => by
      obtain ⟨e, he, q⟩ := List.mem_filterMap.mp hm
      exact away (List.mem_filterMap.mpr ⟨e, List.mem_cons_of_mem _ he, q⟩)
    have S3 := J3.suite at3 f3 na awayL awayF
    refine wpAny_handleBy_cons (codeAny_handlers_test ?_) (by intro q; cases q)
    have looksT : PySem.W.Looks (model X.prog X.w) h3 (typeOf (.ref a)) cls := fun A Q E s k q => wpAny_typeOf_ref (k _ _ at3) (by rw [z3.1]; exact q)
    have looksM := PySem.W.exm_one (M := model X.prog X.w) (J3.kIn) looksT match_
    have named : ∀ {Q : Value → Shared → Prop} {E : Value → Shared → Prop}, Q c { s' with heap := h3 } → wpAny (model X.prog X.w) (X.A.mark (some (.ref a))) (eval (.Name x np) X.env) Q E { s' with heap := h3 } := fun {Q E} q => by
      rcases hc with ⟨hg, dbg, hm | ⟨hm, hv, hnn⟩⟩
      · exact ld_glob (X := X.suite a ((a, o3) :: (X.pn ++ pins))) S3 hg hm q dbg
      · exact ld_blt (X := X.suite a ((a, o3) :: (X.pn ++ pins))) S3 hg hm hv q hnn dbg
    refine named (looksM.here (codeAny_handlers_suite_as ?_))
    refine HandSPX.lands_againZ fly3 fun h4 fly4 up4 => ?_
    have J4 : Inv X pins σI HI { s' with heap := h4 } := J.landed nb fly4.1 ((up.trans up3).trans up4) os ag
    obtain ⟨o4, v4, at4, z4, f4⟩ := fly4.there
    refine store_ok (X := X.suite a ((a, o4) :: (X.pn ++ pins))) (v := .ref a) (J4.suite at4 f4 na awayL awayF) hN hi (.inl hln) rfl (fun s5 S5 => ?_) (.inr hln)
    refine wpAny_mono ((hsu a o4 cls d (X.pn ++ pins) z4 ⟨_, f4⟩).run [] s5 _ HI _ S5 (run a na)) (fun f s6 hsp => ?_) (fun _ _ z => False.elim z)
    have leave : ∀ {σ6 : L2.St} {H6 : Hp} {Q : Shared → Prop}, Inv (X.suite a ((a, o4) :: (X.pn ++ pins))) [] σ6 H6 s6 → (∀ s7, Inv X pins (σ6.set i none) H6 s7 → Q s7) →
        wpAny (model X.prog X.w) X.A (do bindName X.env n .none; unbindBehindTheSuite X.env n pos') (fun _ s7 => Q s7) X.xe s6 := fun {σ6 H6 Q} S6 hq => gone_ok (S6.unsuite okX) hN hi hln hq
    match f, hsp with
    | .next, ⟨σ6, H6, S6, q6⟩ => exact leave S6 fun s7 J7 => ⟨_, _, J7, q6⟩
    | .brk, ⟨σ6, H6, S6, q6⟩ => exact leave S6 fun s7 J7 => ⟨_, _, J7, q6⟩
    | .cont, ⟨σ6, H6, S6, q6⟩ => exact leave S6 fun s7 J7 => ⟨_, _, J7, q6⟩
    | .ret u, ⟨v6, σ6, H6, S6, r6, q6⟩ => exact leave S6 fun s7 J7 => ⟨_, _, _, J7, r6, q6⟩
  refine wpAny_mono ((hb (wFirst X.K c i ts D) (X.pn ++ pins) _ caught PassesOwn.looking).run [] s σ H D (I.toTry _) h) (fun f s1 hsp => ?_) (fun e s1 he => he)
  match f, hsp with
  | .next, ⟨σ1, H1, J1, q⟩ => exact wpAny_execs_nil ⟨σ1, H1, J1.ofTry okX, q⟩
  | .brk, ⟨σ1, H1, J1, q⟩ => exact ⟨σ1, H1, J1.ofTry okX, q⟩
  | .cont, ⟨σ1, H1, J1, q⟩ => exact ⟨σ1, H1, J1.ofTry okX, q⟩
  | .ret u, ⟨v, σ1, H1, J1, r, q⟩ => exact ⟨v, σ1, H1, J1.ofTry okX, r, q⟩
/-- isinstance(e, cs) of the exception that the suite holds, its class at C, its dict at d; cs one class or a tuple of classes -/
def rIsH (K : PySem.W.Frag) (C a d : Addr) : List V → Hp → VK → Prop := fun xs H Q => ∃ (c : V) (b : Bool), xs = [.ref a, c] ∧ (∃ fs, H d = some (.xd fs)) ∧
  ((∃ cv, ClsV c cv ∧ PySem.W.kitOne K (.ref C) cv = some b) ∨ (∃ (tp : Addr) (cs : List V) (us : List Value), c = .ref tp ∧ H tp = some (.tup cs) ∧ Paired ClsV cs us ∧ PySem.W.kitAny K (.ref C) us = some b)) ∧ Q (.bl b) H
theorem call_isH {C a d : Addr} {oe : Obj} {cls : Value} {dd : Option Addr} {pn : List (Addr × Obj)} (T : ExcC X.K C) (hz : Zc cls dd oe) (hf : ∃ vs, oe.data = .fields vs) (ec : cls = .ref C) (ed : dd = some d) :
    CallR (X.suite a ((a, oe) :: pn)) (.builtin "isinstance") (rIsH X.K C a d) := by
  subst ec ed
  intro pins s σ H xs us Q I r h
  obtain ⟨c, b, rfl, ⟨fs, hd⟩, kc, q⟩ := h
  obtain ⟨u1, u2, rfl, r1, r2⟩ := vals2 r
  obtain rfl : u1 = Value.ref a := r1
  obtain ⟨hget, _⟩ := I.pin (a, oe) (List.mem_append.mpr (.inl List.mem_cons_self))
  obtain ⟨vs, hv⟩ := hf
  have hx : ObjOk X.prog X.w H s.heap d (.xd fs) := I.hok d _ hd
  obtain ⟨mA, hns, _⟩ := hx
  obtain ⟨od, ho, _⟩ := lookIn_ns hns
  have J : PySem.W.InstAt s.heap a oe C (some od) := ⟨hget, hz.1, by unfold PySem.W.notCls; rw [hv] <;> rfl, by rw [hz.2]; exact ho⟩
  obtain ⟨cd, hcd, _⟩ := PySem.W.any_some T.hd
  have Z := PySem.W.kitx_exc (K := X.K) (x := a) (C := C) (ox := oe) (od := some od) (by rw [hcd]; rfl) T.hg T.hk T.hs T.ha T.hn T.ht T.hm
  rcases kc with ⟨cv, k1, e⟩ | ⟨tp, cs, ws, rfl, ht, k1, e⟩
  · have e2 := k1.eq r2
    subst e2
    exact PySem.W.kia_one Z I.kIn J e (by intro z; cases z) fun tk => ⟨.bl b, H, I.tok tk, rfl, q⟩
  · obtain rfl : u2 = Value.ref tp := r2
    obtain ⟨_, its, rv, o, h1, h2, n, h3⟩ := (show ObjOk X.prog X.w H s.heap tp (.tup cs) from I.hok tp _ ht)
    have e3 := ClsV.all k1 rv
    subst e3
    obtain ⟨oc, od2, dt, sl⟩ := o
    simp only at h2 h3
    subst h2 h3
    exact PySem.W.kia_tup Z I.kIn J h1 e (by intro z; cases z) fun tk => ⟨.bl b, H, I.tok tk, rfl, q⟩
end
end L2
set_option Elab.async false
set_option linter.all false
set_option maxRecDepth 100000
namespace Toy
open PySem L2
def top (i : Nat) : Stmt := PySem.Challenge.pw_endsum_k01_stocks_made.main.body.getD i (.Pass ⟨0, 0, 0, 0⟩)
abbrev sName : Stmt := top 3
abbrev sPair : Stmt := top 4
abbrev sList : Stmt := top 5
abbrev sUnlike : Stmt := top 6
abbrev sNoSt : Stmt := inClass (top 9) 0
abbrev sInit : Stmt := inClass (top 16) 0
abbrev sEq : Stmt := inClass (top 16) 1
abbrev sSorts : Stmt := top 17
abbrev sKinds : Stmt := top 18
abbrev sKind : Stmt := top 19
abbrev sEnds : Stmt := top 20
abbrev sSrc : Stmt := top 22
abbrev sNext : Stmt := top 23
abbrev sOne : Stmt := top 24
abbrev sNames : Stmt := top 25
abbrev sStock : Stmt := top 26
abbrev sNoName : Stmt := top 27
abbrev sNoSorts : Stmt := top 28
abbrev sNoKinds : Stmt := top 29
abbrev sTold : Stmt := top 30
abbrev sAlike : Stmt := top 31
abbrev sLaw : Stmt := top 32
end Toy
set_option Elab.async false
set_option linter.all false
set_option maxRecDepth 100000
namespace Toy
open PySem L2
/-! ### draws: a source of numbers -/
/-- at p stands a source from which at most n have been mixed -/
def SrcAt (H : Hp) (p : Addr) (n : Nat) : Prop := ∃ a b c : Int, H p = some (.lst [.int a, .int b, .int c]) ∧ 0 ≤ b ∧ b < 2147483647 ∧ 0 ≤ c ∧ c ≤ (n : Int)
/-- all that was tracked, but p, is as it was -/
def Off (p : Addr) (H H' : Hp) : Prop := ∀ b o, H b = some o → b ≠ p → H' b = some o
theorem Off.refl (p : Addr) (H : Hp) : Off p H H := fun _ _ h _ => h
theorem Off.trans {p : Addr} {H H1 H2 : Hp} (a : Off p H H1) (b : Off p H1 H2) : Off p H H2 := fun c o h n => b c o (a c o h n) n
theorem Off.upd {p : Addr} {H : Hp} {o : HO} : Off p H (upd H p o) := fun _ _ h n => (upd_ne n).trans h
theorem Off.new {p q : Addr} {H H1 : Hp} {o : HO} (a : Off p H H1) (n : H1 q = none) : Off p H (L2.upd H1 q o) := fun b u h nb => by
  have z := a b u h nb
  exact (upd_ne (ne_of_none z n)).trans z
theorem same_new {H : Hp} {p : Addr} {o : HO} (h : H p = none) : Same H (upd H p o) := fun b x e => by
  rw [upd_ne (ne_of_none e h)]
  exact e
theorem Same.off {p : Addr} {H H' : Hp} (h : Same H H') : Off p H H' := fun b o e _ => h b o e
def spSrc : Sp := fun vs H Q _ => ∃ c : Int, vs = [.int c] ∧ ∀ p H', H p = none → SrcAt H' p 0 → Same H H' → Q (.ref p) H'
def spNext : Sp := fun vs H Q _ => ∃ (p : Addr) (m : Int) (n : Nat), vs = [.ref p, .int m] ∧ SrcAt H p n ∧ 1 ≤ m ∧ m ≤ 1000000 ∧ n ≤ 100000 ∧
  ∀ r H', 0 ≤ r → r < m → SrcAt H' p (n + 1) → Off p H H' → Q (.int r) H'
def spOne : Sp := fun vs H Q _ => ∃ (p q : Addr) (xs : List V) (n : Nat), vs = [.ref p, .ref q] ∧ SrcAt H p n ∧ n ≤ 100000 ∧ H q = some (.lst xs) ∧ q ≠ p ∧ 1 ≤ xs.length ∧ xs.length ≤ 1000 ∧
  ∀ x H', x ∈ xs → SrcAt H' p (n + 1) → Off p H H' → Q x H'
def primes : List V := [.int 2147483647, .int 2147483629, .int 2147483587, .int 2147483579, .int 2147483563, .int 2147483549, .int 2147483543]
theorem prime_at (i : Int) (h0 : 0 ≤ i) (h7 : i < 7) : ∃ v : Int, atI primes i = some (.int v) ∧ 1000 < v ∧ v ≤ 2147483647 := by
  obtain ⟨j, rfl⟩ := Int.eq_ofNat_of_zero_le h0
  have hj : j < 7 := by omega
  match j, hj with
  | 0, _ => exact ⟨_, rfl, by decide, by decide⟩
  | 1, _ => exact ⟨_, rfl, by decide, by decide⟩
  | 2, _ => exact ⟨_, rfl, by decide, by decide⟩
  | 3, _ => exact ⟨_, rfl, by decide, by decide⟩
  | 4, _ => exact ⟨_, rfl, by decide, by decide⟩
  | 5, _ => exact ⟨_, rfl, by decide, by decide⟩
  | 6, _ => exact ⟨_, rfl, by decide, by decide⟩
section
variable {P : Program} {w : World} {K : PySem.W.Frag} {mg : Str → Option Value} {base : Heap}
theorem scSrc : FnScope ["_law_cell"] ["_law_cell"] (defScope sSrc) := ⟨rfl, rfl, rfl, by decide +kernel, rfl, by decide +kernel, by decide +kernel⟩
theorem ok_src {f : Addr} {fd : FuncData} (F : Fun K "_law_source_of" "_law_source_of" sSrc f fd) (mi : mg "int" = none) : FnOk P w K mg base CX0 1 f fd ["_law_cell"] spSrc := by
  refine F.ok scSrc (fun vs H Q E h => ?_) (fun cdv A outer s H vs Q E hr h => ?_)
  · obtain ⟨c, rfl, _⟩ := h
    rfl
  · obtain ⟨c, rfl, k⟩ := h
    refine ⟨_, pss_one (ps_ret (pe_lst (pa_cons (pe_op op_mul (pv 0) (pe_callTy call_int1 (by rfl) mi (by decide +kernel) (pa_cons (pe_cmpR op_ge (pv 0) (pe_op op_pow pe_int pe_int) (nomark _)) pa_nil)))
      (pa_cons (pe_op op_mod (pv 0) pe_int) (pa_cons pe_int pa_nil))))), ?_⟩
    refine ⟨_, rfl, _, rfl, _, _, rfl, rfl, ⟨by decide, by decide, by decide⟩, _, _, rfl, rfl, .inr ⟨_, rfl, _, _, rfl, rfl, .inr ?_, ?_⟩⟩
    · split <;> decide
    · refine ⟨_, rfl, _, _, rfl, rfl, (by show (0 : Int) < 2147483647; decide), by show 3 ≤ sizeLine; decide, fun p hp => ?_⟩
      refine k p _ hp ⟨_, _, _, upd_same, ?_, ?_, by decide, by decide⟩ (same_new hp)
      · omega
      · omega
theorem scNext : FnScope ["_law_source", "_law_many", "_law_found", "_law_prime", "_law_figure"] ["_law_source", "_law_many"] (defScope sNext) := ⟨rfl, rfl, rfl, by decide +kernel, rfl, by decide +kernel, by decide +kernel⟩
theorem ix0 {xs : List V} {v : V} : atI (v :: xs) 0 = some v := atI_nat (j := 0) rfl
theorem ix1 {xs : List V} {u v : V} : atI (u :: v :: xs) 1 = some v := atI_nat (j := 1) rfl
theorem ix2 {xs : List V} {u v y : V} : atI (u :: v :: y :: xs) 2 = some y := atI_nat (j := 2) rfl
theorem ok_next {f : Addr} {fd : FuncData} (F : Fun K "_law_next" "_law_next" sNext f fd) : FnOk P w K mg base CX0 1 f fd ["_law_source", "_law_many"] spNext := by
  refine F.ok scNext (fun vs H Q E h => ?_) (fun cdv A outer s H vs Q E hr h => ?_)
  · obtain ⟨p, m, n, rfl, _⟩ := h
    rfl
  · obtain ⟨p, m, n, rfl, ⟨a, b, c, hp, b0, b1, c0, c1⟩, m0, m1, hn, k⟩ := h
    refine ⟨_, pss_cons (ps_if (pt_cmpR op_gt (pe_ix ix_list (pv 0) pe_int (fun _ _ => rfl)) pe_int (nomark _))
        (pss_cons (ps_set (i := 2) scNext.nd rfl (Or.inl rfl) (pe_op op_mod (pe_ix ix_list (pv 0) pe_int (fun _ _ => rfl)) (pv 1)))
        (pss_cons (ps_asg (pe_op op_fdiv (pe_ix ix_list (pv 0) pe_int (fun _ _ => rfl)) (pv 1)) (pg_sub (pv 0) pe_int set_list))
        (pss_one (ps_ret (pv 2))))) pss_nil)
      (pss_cons (ps_asg (pe_op op_add (pe_ix ix_list (pv 0) pe_int (fun _ _ => rfl)) pe_int) (pg_sub (pv 0) pe_int set_list))
      (pss_cons (ps_set (i := 3) scNext.nd rfl (Or.inl rfl) (pe_ix ix_list (pe_lst (pa_cons pe_int (pa_cons pe_int (pa_cons pe_int (pa_cons pe_int (pa_cons pe_int (pa_cons pe_int (pa_cons pe_int pa_nil)))))))) (pe_op op_mod (pe_ix ix_list (pv 0) pe_int (fun _ _ => rfl)) pe_int) (fun _ _ => rfl)))
      (pss_cons (ps_set (i := 4) scNext.nd rfl (Or.inl rfl) (pe_op op_mod (pe_op op_pow (pe_op op_add (pe_op op_add (pe_ix ix_list (pv 0) pe_int (fun _ _ => rfl)) (pe_op op_mul pe_int (pe_ix ix_list (pv 0) pe_int (fun _ _ => rfl)))) pe_int) pe_int) (pv 3)))
      (pss_cons (ps_set (i := 4) scNext.nd rfl (Or.inl rfl) (pe_op op_mod (pe_op op_mul (pe_op op_add (pv 4) (pe_ix ix_list (pv 0) pe_int (fun _ _ => rfl))) (pe_op op_add (pe_op op_fdiv (pv 4) pe_int) pe_int)) (pv 3)))
      (pss_one (ps_ret (pe_op op_mod (pe_op op_fdiv (pv 4) pe_int) (pv 1)))))))), ?_⟩
    -- if source[0] > 0
    refine ⟨_, rfl, p, _, _, _, rfl, rfl, SqL.of hp, ix0, _, _, rfl, rfl, _, rfl, ite2 (fun ha => ?_) (fun ha => ?_)⟩
    · have hm : (0 : Int) < m := by omega
      refine ⟨_, rfl, p, _, _, _, rfl, rfl, SqL.of hp, ix0, _, rfl, _, _, rfl, rfl, hm, ?_⟩
      refine ⟨_, rfl, p, _, _, _, rfl, rfl, SqL.of hp, ix0, _, rfl, _, _, rfl, rfl, ⟨hm, by omega⟩, ?_⟩
      refine ⟨_, rfl, p, _, _, 0, rfl, rfl, hp, rfl, ?_⟩
      refine ⟨_, rfl, ?_⟩
      exact k _ _ (Int.emod_nonneg _ (by omega)) (Int.emod_lt_of_pos _ hm) ⟨_, _, _, upd_same, b0, b1, c0, by omega⟩ Off.upd
    · refine ⟨_, rfl, p, _, _, _, rfl, rfl, SqL.of hp, ix2, _, _, rfl, rfl, ?_⟩
      refine ⟨_, rfl, p, _, _, 2, rfl, rfl, hp, rfl, ?_⟩
      have h1 : upd H p (.lst [.int a, .int b, .int (c + 1)]) p = some (.lst [.int a, .int b, .int (c + 1)]) := upd_same
      refine ⟨by show 7 ≤ sizeLine; decide, fun q hq => ?_⟩
      have npq : p ≠ q := ne_of_none h1 hq
      have h2 : upd (upd H p (.lst [.int a, .int b, .int (c + 1)])) q (.lst primes) p = some (.lst [.int a, .int b, .int (c + 1)]) := (upd_ne npq).trans h1
      obtain ⟨v, hv, v0, v1⟩ := prime_at ((c + 1) % 7) (Int.emod_nonneg _ (by decide)) (Int.emod_lt_of_pos _ (by decide))
      refine ⟨_, rfl, p, _, _, _, rfl, rfl, SqL.of h2, ix2, _, _, rfl, rfl, (by show (0 : Int) < 7; decide), ?_⟩
      refine ⟨q, _, _, _, rfl, rfl, SqL.of upd_same, hv, ?_⟩
      refine ⟨_, rfl, p, _, _, _, rfl, rfl, SqL.of h2, ix1, _, rfl, p, _, _, _, rfl, rfl, SqL.of h2, ix2, _, _, rfl, rfl, .inl ⟨by decide, by decide⟩, _, _, rfl, rfl, _, _, rfl, rfl, _, _, rfl, rfl, ⟨by decide, by decide, by omega⟩, _, rfl, _, _, rfl, rfl, (by show (0 : Int) < v; omega), ?_⟩
      generalize hx : (b + 7919 * (c + 1) + 1) ^ (5 : Int).toNat % v = x
      have x0 : 0 ≤ x := by rw [← hx]; exact Int.emod_nonneg _ (by omega)
      have x1 : x < v := by rw [← hx]; exact Int.emod_lt_of_pos _ (by omega)
      refine ⟨_, rfl, _, rfl, p, _, _, _, rfl, rfl, SqL.of h2, ix2, _, _, rfl, rfl, _, rfl, _, _, rfl, rfl, ⟨by decide, by decide⟩, _, _, rfl, rfl, _, _, rfl, rfl, .inl ⟨by omega, by omega⟩, _, rfl, _, _, rfl, rfl, (by show (0 : Int) < v; omega), ?_⟩
      refine ⟨_, rfl, _, _, rfl, rfl, ⟨by decide, by decide⟩, _, rfl, _, _, rfl, rfl, (by show (0 : Int) < m; omega), ?_⟩
      exact k _ _ (Int.emod_nonneg _ (by omega)) (Int.emod_lt_of_pos _ (by omega)) ⟨_, _, _, h2, b0, b1, by omega, by omega⟩ (Off.upd.new hq)
theorem scOne : FnScope ["_law_source", "_law_some"] ["_law_source", "_law_some"] (defScope sOne) := ⟨rfl, rfl, rfl, by decide +kernel, rfl, by decide +kernel, by decide +kernel⟩
theorem ok_one {f fN : Addr} {fd fdN : FuncData} (F : Fun K "_law_one" "_law_one" sOne f fd) (FN : Fun K "_law_next" "_law_next" sNext fN fdN) (bN : Binds K fdN ["_law_source", "_law_many"] []) (gN : mg "_law_next" = some (.ref fN)) (ml : mg "len" = none) :
    FnOk P w K mg base CX0 2 f fd ["_law_source", "_law_some"] spOne := by
  have GN : FnOk P w K mg base CX0 1 fN fdN ["_law_source", "_law_many"] spNext := ok_next FN
  refine F.ok scOne (fun vs H Q E h => ?_) (fun cdv A outer s H vs Q E hr h => ?_)
  · obtain ⟨p, q, xs, n, rfl, _⟩ := h
    rfl
  · obtain ⟨p, q, xs, n, rfl, hp, hn, hq, nqp, l1, l2, k⟩ := h
    refine ⟨_, pss_one (ps_ret (pe_ix ix_list (pv 1) (pe_call GN hr rfl gN FN.kp bN .nil pass0 (pa_cons (pv 0) (pa_cons (pe_callB call_len_seq (by rfl) ml PySem.boot_len (pa_cons (pv 1) pa_nil)) pa_nil))) (fun _ _ => rfl))), ?_⟩
    refine ⟨_, rfl, _, rfl, _, rfl, q, xs, rfl, .inl (SqL.of hq), p, (xs.length : Int), n, rfl, hp, by omega, by omega, hn, fun r H' r0 r1 hp' off => ?_⟩
    obtain ⟨j, rfl⟩ := Int.eq_ofNat_of_zero_le r0
    have hj : j < xs.length := by omega
    refine ⟨q, xs, _, xs[j], rfl, rfl, SqL.of (off q _ hq nqp), at_of rfl (List.getElem?_eq_getElem hj), ?_⟩
    exact k _ _ (List.getElem_mem hj) hp' off
end
end Toy
set_option Elab.async false
set_option linter.all false
set_option maxRecDepth 100000
set_option maxHeartbeats 2000000
namespace Toy
open PySem PySem.Spec PyProof.Rows L2
/-! ### comprehensions that only make things -/
theorem lc_mapW {J : It} {n : Nat} {G : Hp → Prop} {Y : Nat → Hp → V → Hp → Prop} (w : Walk J n G Y) {g : TG} {te : TE} {vs : List Nat} {σ : L2.St} {H1 : Hp} {D : Addr} {Qd : Hp → Prop} (ys : List V) (hn : ys.length = n) (h1000 : n ≤ 1000) (hD : H1 D = none)
    (hG : ∀ H, Same H1 H → G H) (hY : ∀ i H x H', Y i H x H' → Same H H')
    (step : ∀ i x H H' (R : V → Hp → Prop), i < n → Same H1 H → Y i H x H' → (∀ y H4, ys[i]? = some y → Same H' H4 → R y H4) → g x (wipe σ vs) H' fun σ2 H2 => wipe σ2 vs = wipe σ vs ∧ te σ2 H2 R)
    (hd : ∀ H, Same H1 H → H D = some (.lst ys) → Qd H) :
    ∃ W : Nat → Nat → Hp → Prop, (∃ m, W 0 m (upd H1 D (.lst []))) ∧ ∀ i m H, W i m H →
      (J.stop i H ∧ Qd H) ∨ (J.go i H ∧ ∃ Nx : Hp → Prop, (∀ H', Nx H' → ∃ m', m' < m ∧ W (i + 1) m' H') ∧ ∀ x H', J.yld i H x H' → g x (wipe σ vs) H' fun σ2 H2 => wipe σ2 vs = wipe σ vs ∧ tYes σ2 H2 fun b H3 =>
        if b = true then te σ2 H3 fun y H4 => ∃ acc, H4 D = some (.lst acc) ∧ acc.length < sizeLine ∧ Nx (upd H4 D (.lst (acc ++ [y]))) else Nx H3) := by
  refine lc_it w (fun i H => Same H1 H ∧ H D = some (.lst (ys.take i))) ⟨same_new hD, upd_same⟩ (fun i H _ h => hG H h.1) (fun i x H H' hi h hy => ?_) (fun H h => hd H h.1 (by rw [h.2, List.take_of_length_le (by omega)]))
  obtain ⟨s1, d1⟩ := h
  have s2 := hY i H x H' hy
  refine step i x H H' _ hi s1 hy fun y H4 e s4 => ?_
  have d4 := s4 _ _ (s2 _ _ d1)
  refine ⟨_, d4, ?_, fun b o e2 => ?_, ?_⟩
  · rw [List.length_take]
    exact small1000 (by omega)
  · rw [upd_ne (ne_of_none e2 hD)]
    exact s4 _ _ (s2 _ _ (s1 _ _ e2))
  · rw [upd_same, List.take_add_one, e]
    rfl
theorem bools_at (bs : List Bool) {i : Nat} {b : Bool} (h : bs[i]? = some b) {y : V} (e : (bs.map V.bl)[i]? = some y) : y = .bl b := by
  rw [List.getElem?_map, h] at e
  exact (Option.some.inj e).symm
/-! ### names -/
def LET : Str := "abcdefghijklmnopqrstuvwxyz"
def letter (c : Nat) : Bool := decide (c ∈ LET.cps.toList)
def nameS (x : Str) : Bool := (decide (1 ≤ x.length) && decide (x.length ≤ 8)) && x.cps.toList.all letter
def nameD : PyData → Bool
  | .str x => nameS x
  | _ => false
def spName : Sp := fun vs H Q _ => ∃ (v : V) (d : PyData), vs = [v] ∧ Dt H v d ∧ ∀ H', Same H H' → Q (.bl (nameD d)) H'
structure Mods (mg : Str → Option Value) : Prop where
  let_ : ∃ t, mg "LETTERS" = some (.str LET t)
  most : ∃ t, mg "LONGEST_NAME" = some (.int 8 t)
  ms : ∃ t, mg "MOST_SORTS" = some (.int 3 t)
  mkd : ∃ t, mg "MOST_KINDS" = some (.int 4 t)
  me : ∃ t, mg "MOST_ENDS" = some (.int 5 t)
  isi : mg "isinstance" = none
  str_ : mg "str" = none
  tup_ : mg "tuple" = none
  lst_ : mg "list" = none
  len : mg "len" = none
  all_ : mg "all" = none
  set_ : mg "set" = none
  dict_ : mg "dict" = none
  srt : mg "sorted" = none
section
variable {P : Program} {w : World} {K : PySem.W.Frag} {mg : Str → Option Value} {base : Heap}
theorem scName : FnScope ["thing", "sign"] ["thing"] (defScope sName) := ⟨rfl, rfl, rfl, by decide +kernel, rfl, by decide +kernel, by decide +kernel⟩
theorem ok_name {f : Addr} {fd : FuncData} (F : Fun K "is_name" "is_name" sName f fd) (M : Mods mg) : FnOk P w K mg base CX0 1 f fd ["thing"] spName := by
  obtain ⟨tl, hlet⟩ := M.let_
  obtain ⟨tm, hmost⟩ := M.most
  refine F.ok scName (fun vs H Q E h => ?_) (fun cdv A outer s H vs Q E hr h => ?_)
  · obtain ⟨v, d, rfl, _⟩ := h
    rfl
  · obtain ⟨v, d, rfl, hd, k⟩ := h
    refine ⟨_, pss_cons (ps_if (PW.pt (pw_or (pt_not (pt_val (pe_callB (call_isd (T := "str")) (by rfl) M.isi (by decide +kernel) (pa_cons (pv 0) (pa_cons (pe_bltn (v := .ty "str") (by rfl) M.str_ (by decide +kernel) rfl) pa_nil)))))
        (pw_or1 (pt_not (pt_chain op_le op_le pe_int (pe_callB call_len_str (by rfl) M.len PySem.boot_len (pa_cons (pv 0) pa_nil)) (pe_glob (v := .int 8) (by rfl) hmost ⟨_, rfl⟩)))))) (pss_one (ps_ret pe_bl)) pss_nil)
      (pss_one (ps_ret (pe_callB (cr_all rfl) (by rfl) M.all_ (by decide +kernel) (pa_cons (pe_lc (own := [("sign", 1)]) (g := gName 1) (tt := tYes) rfl scName.nd (pi_str (pv 0)) (blkOk_by (N := ["thing", "sign"]) (sc := defScope sName) (by decide +kernel)) (fun _ _ _ _ _ => pg_name (i := 1) scName.nd rfl (Or.inl rfl)) (fun _ _ _ _ _ => pts_nil)
        (fun _ _ _ _ _ => pe_cmpR op_in_sign (pv 1) (pe_glob (v := .str LET) (by rfl) hlet ⟨_, rfl⟩) rfl)) pa_nil)))), ?_⟩
    refine ⟨_, rfl, v, d, _, rfl, hd, kit_str d, _, rfl, ?_⟩
    have no : (∀ x, d ≠ .str x) → nameD d = false := fun h => by
      cases d <;> first | rfl | exact absurd rfl (h _)
    cases hd with
    | non => exact k _ (Same.refl _)
    | bl b => exact k _ (Same.refl _)
    | int i => exact k _ (Same.refl _)
    | lst e l r => exact k _ (Same.refl _)
    | tup e l r => exact k _ (Same.refl _)
    | dct e => exact k _ (Same.refl _)
    | str x hx =>
      have small : x.length ≤ sizeLine := Nat.le_of_lt (small1000 hx.1)
      refine ⟨_, rfl, x, rfl, small, _, _, rfl, rfl, _, rfl, ite2 (fun h1 => ?_) (fun h1 => ?_)⟩
      · refine ⟨_, _, rfl, rfl, _, rfl, ?_⟩
        have len1 : (1 : Int) ≤ (x.length : Int) := of_decide_eq_true h1
        by_cases h8 : (x.length : Int) ≤ 8
        · rw [decide_eq_true h8]
          refine ⟨_, rfl, x, rfl, fun D hD => ?_⟩
          refine lc_mapW (walk_str (z := x)) (x.cps.toList.map fun c => V.bl (letter c)) (by rw [List.length_map]; exact Array.length_toList) (by exact hx.1) hD (fun _ _ => trivial) (fun i H x H' h => by rw [h.1]; exact Same.refl _) (fun i y H1 H2 R hi s1 hy hR => ?_) (fun H1 s1 hD1 => ?_)
          · obtain ⟨rfl, c, hc, rfl⟩ := hy
            refine ⟨rfl, _, rfl, c, LET, rfl, rfl, hR _ _ ?_ (Same.refl _)⟩
            rw [List.getElem?_map, Array.getElem?_toList, hc]
            rfl
          · refine ⟨D, x.cps.toList.map letter, rfl, ?_, ?_⟩
            · rw [List.map_map]
              exact SqL.of hD1
            · have e : nameD (.str x) = (x.cps.toList.map letter).all id := by
                show ((decide (1 ≤ x.length) && decide (x.length ≤ 8)) && x.cps.toList.all letter) = _
                rw [decide_eq_true (by omega : 1 ≤ x.length), decide_eq_true (by omega : x.length ≤ 8), List.all_map]
                rfl
              rw [← e]
              exact k _ s1
        · rw [decide_eq_false h8]
          have e : nameD (.str x) = false := by
            show ((decide (1 ≤ x.length) && decide (x.length ≤ 8)) && x.cps.toList.all letter) = _
            rw [decide_eq_false (by omega : ¬ x.length ≤ 8), Bool.and_false, Bool.false_and]
          have k2 := k H (Same.refl _)
          rw [e] at k2
          exact k2
      · have e : nameD (.str x) = false := by
          show ((decide (1 ≤ x.length) && decide (x.length ≤ 8)) && x.cps.toList.all letter) = _
          have h2 : ¬ 1 ≤ x.length := fun q => h1 (decide_eq_true (by omega))
          rw [decide_eq_false h2, Bool.false_and, Bool.false_and]
        have k2 := k H (Same.refl _)
        rw [e] at k2
        exact ⟨_, rfl, k2⟩
end
end Toy
set_option Elab.async false
set_option linter.all false
set_option maxRecDepth 100000
set_option maxHeartbeats 2000000
namespace Toy
open PySem PySem.Spec PyProof.Rows L2
/-! ### pairs, lists, unlike things -/
theorem dec_int (a b : Int) : decide (V.int a = V.int b) = decide (a = b) := by
  by_cases h : a = b
  · rw [h, decide_eq_true rfl, decide_eq_true rfl]
  · rw [decide_eq_false h, decide_eq_false fun q => h (V.int.inj q)]
def pairD : PyData → Bool
  | .tuple ds => decide (ds.length = 2)
  | _ => false
def spPair : Sp := fun vs H Q _ => ∃ (v : V) (d : PyData), vs = [v] ∧ Dt H v d ∧ Q (.bl (pairD d)) H
def listD (a b : Int) : PyData → Bool
  | .list ds => decide (a ≤ (ds.length : Int)) && decide ((ds.length : Int) ≤ b)
  | _ => false
def spList : Sp := fun vs H Q _ => ∃ (v : V) (d : PyData) (a b : Int), vs = [v, .int a, .int b] ∧ Dt H v d ∧ Q (.bl (listD a b d)) H
def spUnlike (K : PySem.W.Frag) : Sp := fun vs H Q _ => ∃ (l : Addr) (xs : List Str), vs = [.ref l] ∧ SqL K H l (xs.map V.str) ∧ xs.length ≤ 100 ∧ Q (.bl (decide xs.Nodup)) H
/-! ### kinds' ends -/
def strO : PyData → Str
  | .str x => x
  | _ => Str.empty
abbrev Rows2 := List (Str × Str)
def kvOf (r : Str × Str) : Key × V := (Sum.inr r.1, .str r.2)
def endsD (keys : List Str) : PyData → Bool
  | .tuple ds => (decide (1 ≤ ds.length) && decide (ds.length ≤ 5)) && ((ds.all fun d => nameD d && decide (strO d ∈ keys)) && sortedS (ds.map strO))
  | _ => false
def spEnds : Sp := fun vs H Q _ => ∃ (v : V) (d : PyData) (p : Addr) (rows : Rows2), vs = [v, .ref p] ∧ Dt H v d ∧ H p = some (.dK (rows.map kvOf)) ∧ ∀ H', Same H H' → Q (.bl (endsD (rows.map (·.1)) d)) H'
def kindD (keys : List Str) : PyData → Bool
  | .tuple [n, e] => nameD n && endsD keys e
  | _ => false
def spKind : Sp := fun vs H Q _ => ∃ (v : V) (d : PyData) (p : Addr) (rows : Rows2), vs = [v, .ref p] ∧ Dt H v d ∧ H p = some (.dK (rows.map kvOf)) ∧ ∀ H', Same H H' → Q (.bl (kindD (rows.map (·.1)) d)) H'
def name0 : PyData → Str
  | .tuple (d :: _) => strO d
  | _ => Str.empty
def kindsD (keys : List Str) : PyData → Bool
  | .list ds => (decide (1 ≤ ds.length) && decide (ds.length ≤ 4)) && ((ds.all (kindD keys)) && decide (ds.map name0).Nodup)
  | _ => false
def spKinds : Sp := fun vs H Q _ => ∃ (v : V) (d : PyData) (p : Addr) (rows : Rows2), vs = [v, .ref p] ∧ Dt H v d ∧ H p = some (.dK (rows.map kvOf)) ∧ ∀ H', Same H H' → Q (.bl (kindsD (rows.map (·.1)) d)) H'
theorem val_rows : ∀ (rows : Rows2) (x : Str), (valV (rows.map kvOf) (Sum.inr x)).isSome = decide (x ∈ rows.map (·.1))
  | [], x => rfl
  | r :: rows, x => by
    have ih := val_rows rows x
    by_cases e : r.1 = x
    · rw [List.map_cons, valV_pos (p := kvOf r) (congrArg Sum.inr e), decide_eq_true (by rw [List.map_cons, e]; exact List.mem_cons_self)]
      rfl
    · rw [List.map_cons, valV_neg (p := kvOf r) (fun q => e (Sum.inr.inj q)), ih, List.map_cons]
      by_cases m : x ∈ rows.map (·.1)
      · rw [decide_eq_true m, decide_eq_true (List.mem_cons_of_mem _ m)]
      · rw [decide_eq_false m, decide_eq_false (fun q => (List.mem_cons.mp q).elim (fun z => e z.symm) m)]
/-- the texts of a list of names -/
theorem strs_of {H : Hp} : ∀ {xs : List V} {ds : List PyData}, DtAll H xs ds → (∀ d ∈ ds, nameD d = true) → xs = (ds.map strO).map V.str ∧ ds = (ds.map strO).map PyData.str
  | _, _, .nil, _ => ⟨rfl, rfl⟩
  | _, _, .cons (v := v) (d := d) h t, n => by
    obtain ⟨e1, e2⟩ := strs_of t fun d hd => n d (List.mem_cons_of_mem _ hd)
    have n0 := n _ List.mem_cons_self
    cases h with
    | str x hx =>
      refine ⟨?_, ?_⟩
      · rw [List.map_cons, List.map_cons, ← e1]
        rfl
      · rw [List.map_cons, List.map_cons, ← e2]
        rfl
    | _ => exact absurd n0 (by intro z; cases z)
theorem eqv_strs : ∀ xs ys : List Str, PyData.eqvAll (xs.map .str) (ys.map .str) = decide (xs = ys)
  | [], [] => rfl
  | [], y :: ys => rfl
  | x :: xs, [] => rfl
  | x :: xs, y :: ys => by
    show (PyData.eqv (.str x) (.str y) && PyData.eqvAll (xs.map .str) (ys.map .str)) = _
    rw [eqv_strs xs ys]
    show ((x == y) && decide (xs = ys)) = _
    by_cases e : x = y
    · subst e
      by_cases e2 : xs = ys
      · subst e2
        simp
      · rw [decide_eq_false e2, Bool.and_false, decide_eq_false fun q => e2 (List.cons.inj q).2]
    · have e3 : (x == y) = false := by simpa using e
      rw [e3, Bool.false_and, decide_eq_false fun q => e (List.cons.inj q).1]
theorem ltCps_le (a b : Str) : ltCps a.cps.toList b.cps.toList = false ↔ b.cps.toList ≤ a.cps.toList := by
  rw [ltCps_eq]
  exact ⟨fun h => of_decide_eq_false h, fun h => decide_eq_false h⟩
theorem rising_pw : ∀ (p : Str) (l : List Str), risingS p l = true → (p :: l).Pairwise fun a b => a.cps.toList ≤ b.cps.toList
  | p, [], _ => List.pairwise_singleton _ _
  | p, x :: r, h => by
    have h2 : (!ltCps x.cps.toList p.cps.toList && risingS x r) = true := h
    rw [Bool.and_eq_true] at h2
    have ih := rising_pw x r h2.2
    have hpx : p.cps.toList ≤ x.cps.toList := (ltCps_le x p).mp (by simpa using h2.1)
    refine List.pairwise_cons.mpr ⟨fun y hy => ?_, ih⟩
    rcases List.mem_cons.mp hy with rfl | hy
    · exact hpx
    · exact List.le_trans hpx ((List.pairwise_cons.mp ih).1 y hy)
theorem sorted_pw : ∀ {l : List Str}, sortedS l = true → l.Pairwise fun a b => a.cps.toList ≤ b.cps.toList
  | [], _ => List.Pairwise.nil
  | x :: r, h => rising_pw x r h
theorem str_ext {a b : Str} (h : a.cps.toList = b.cps.toList) : a = b := by
  cases a
  cases b
  exact congrArg _ (Array.toList_inj.mp h)
theorem sorted_one {l m : List Str} (hl : sortedS l = true) (hm : sortedS m = true) (p : l.Perm m) : l = m :=
  List.Perm.eq_of_pairwise (le := fun a b : Str => a.cps.toList ≤ b.cps.toList) (fun a b _ _ h1 h2 => str_ext (List.le_antisymm h1 h2)) (sorted_pw hl) (sorted_pw hm) p
theorem depth_strs : ∀ xs : List Str, PyData.depthAll (xs.map .str) ≤ 1
  | [] => by first | exact Nat.zero_le _ | decide
  | x :: xs => by
    have ih := depth_strs xs
    have e : PyData.depthAll (PyData.str x :: xs.map .str) = max (PyData.depth (.str x)) (PyData.depthAll (xs.map .str)) := by first | rfl | simp [PyData.depthAll]
    rw [List.map_cons, e]
    have e0 : PyData.depth (.str x) ≤ 1 := by first | exact Nat.le_refl _ | exact Nat.zero_le _ | simp [PyData.depth]
    omega
theorem shaped_strs {xs : List Str} (h : PyData.canLayAll0 (xs.map .str) = true) : SeqAt.shaped (.list (xs.map .str)) = true := by
  unfold SeqAt.shaped
  rw [Bool.and_eq_true]
  refine ⟨h, decide_eq_true ?_⟩
  have d := depth_strs xs
  have e : PyData.depth (.list (xs.map .str)) = PyData.depthAll (xs.map .str) + 1 := by first | rfl | simp [PyData.depth, Nat.add_comm]
  rw [e]
  omega
section
variable {P : Program} {w : World} {K : PySem.W.Frag} {mg : Str → Option Value} {base : Heap}
theorem scPair : FnScope ["thing"] ["thing"] (defScope sPair) := ⟨rfl, rfl, rfl, by decide +kernel, rfl, by decide +kernel, by decide +kernel⟩
theorem ok_pair {f : Addr} {fd : FuncData} (F : Fun K "is_pair" "is_pair" sPair f fd) (M : Mods mg) : FnOk P w K mg base CX0 1 f fd ["thing"] spPair := by
  refine F.ok scPair (fun vs H Q E h => ?_) (fun cdv A outer s H vs Q E hr h => ?_)
  · obtain ⟨v, d, rfl, _⟩ := h
    rfl
  · obtain ⟨v, d, rfl, hd, k⟩ := h
    refine ⟨_, pss_one (ps_ret (pe_and (pe_callB (call_isd (T := "tuple")) (by rfl) M.isi (by decide +kernel) (pa_cons (pv 0) (pa_cons (pe_bltn (v := .ty "tuple") (by rfl) M.tup_ (by decide +kernel) rfl) pa_nil)))
      (pe_one (pe_cmpR op_eq (pe_callB call_len_seq (by rfl) M.len PySem.boot_len (pa_cons (pv 0) pa_nil)) pe_int (nomark _))))), ?_⟩
    refine ⟨_, rfl, v, d, _, rfl, hd, kit_tuple d, _, rfl, ?_⟩
    cases hd with
    | @tup a xs ds e l r =>
      refine ⟨_, rfl, a, xs, rfl, .inr (SqT.of e), rfl, ?_⟩
      rw [dec_int, r.len]
      have e2 : decide (((ds.length : Nat) : Int) = 2) = decide (ds.length = 2) := by
        by_cases q : ds.length = 2
        · rw [decide_eq_true q, decide_eq_true (by omega)]
        · rw [decide_eq_false q, decide_eq_false (by omega)]
      rw [e2]
      exact k
    | _ => exact k
theorem scList : FnScope ["thing", "fewest", "most"] ["thing", "fewest", "most"] (defScope sList) := ⟨rfl, rfl, rfl, by decide +kernel, rfl, by decide +kernel, by decide +kernel⟩
theorem ok_list {f : Addr} {fd : FuncData} (F : Fun K "is_list" "is_list" sList f fd) (M : Mods mg) : FnOk P w K mg base CX0 1 f fd ["thing", "fewest", "most"] spList := by
  refine F.ok scList (fun vs H Q E h => ?_) (fun cdv A outer s H vs Q E hr h => ?_)
  · obtain ⟨v, d, a, b, rfl, _⟩ := h
    rfl
  · obtain ⟨v, d, a, b, rfl, hd, k⟩ := h
    refine ⟨_, pss_one (ps_ret (pe_and (pe_callB (call_isd (T := "list")) (by rfl) M.isi (by decide +kernel) (pa_cons (pv 0) (pa_cons (pe_bltn (v := .ty "list") (by rfl) M.lst_ (by decide +kernel) rfl) pa_nil)))
      (pe_one (pe_chain op_le op_le (pv 1) (pe_callB call_len_seq (by rfl) M.len PySem.boot_len (pa_cons (pv 0) pa_nil)) (pv 2))))), ?_⟩
    refine ⟨_, rfl, v, d, _, rfl, hd, kit_list d, _, rfl, ?_⟩
    cases hd with
    | @lst l xs ds e _ r =>
      refine ⟨_, rfl, _, rfl, l, xs, rfl, .inl (SqL.of e), _, _, rfl, rfl, _, rfl, ?_⟩
      have k2 : Q (.bl (decide (a ≤ (ds.length : Int)) && decide ((ds.length : Int) ≤ b))) H := k
      rw [← r.len] at k2
      by_cases q : a ≤ (xs.length : Int)
      · rw [decide_eq_true q] at k2 ⊢
        refine ⟨_, rfl, _, _, rfl, rfl, ?_⟩
        rw [Bool.true_and] at k2
        exact k2
      · rw [decide_eq_false q] at k2 ⊢
        exact k2
    | _ => exact k
theorem scUnlike : FnScope ["things"] ["things"] (defScope sUnlike) := ⟨rfl, rfl, rfl, by decide +kernel, rfl, by decide +kernel, by decide +kernel⟩
theorem ok_unlike {f : Addr} {fd : FuncData} (F : Fun K "are_unlike" "are_unlike" sUnlike f fd) (M : Mods mg) : FnOk P w K mg base CX0 1 f fd ["things"] (spUnlike K) := by
  refine F.ok scUnlike (fun vs H Q E h => ?_) (fun cdv A outer s H vs Q E hr h => ?_)
  · obtain ⟨l, xs, rfl, _⟩ := h
    rfl
  · obtain ⟨l, xs, rfl, hl, h100, k⟩ := h
    refine ⟨_, pss_one (ps_ret (pe_cmpR op_eq (pe_lenMet rfl (by rfl) M.len (by rfl) M.set_ (pv 0)) (pe_callB call_len_seq (by rfl) M.len PySem.boot_len (pa_cons (pv 0) pa_nil)) (nomark _))), ?_⟩
    refine ⟨_, rfl, l, xs, rfl, hl, h100, _, rfl, l, _, rfl, .inl hl, rfl, ?_⟩
    rw [dec_int, List.length_map]
    have e : decide (((met xs).length : Int) = (xs.length : Int)) = decide xs.Nodup := by
      by_cases q : xs.Nodup
      · rw [decide_eq_true q, decide_eq_true (by rw [(met_full xs).mpr q])]
      · rw [decide_eq_false q, decide_eq_false (fun z => q ((met_full xs).mp (by omega)))]
    rw [e]
    exact k
end
end Toy
set_option Elab.async false
set_option linter.all false
set_option maxRecDepth 100000
set_option maxHeartbeats 4000000
namespace Toy
open PySem PySem.Spec PyProof.Rows L2
theorem dget_rows {H : Hp} {p : Addr} {rows : Rows2} (h : Rd H p (.dK (rows.map kvOf))) (x : Str) : DGet H p (.str x) (valV (rows.map kvOf) (Sum.inr x)) := .inl ⟨_, Sum.inr x, h, rfl, rfl⟩
theorem noDicts_strs : ∀ zs : List Str, noDicts (zs.map .str) = true
  | [] => rfl
  | _ :: zs => noDicts_strs zs
theorem name_str {d : PyData} (h : nameD d = true) : ∃ x, d = .str x := by
  cases d with
  | str x => exact ⟨x, rfl⟩
  | _ => cases h
theorem dt_str {H : Hp} {v : V} {x : Str} (h : Dt H v (.str x)) : v = .str x ∧ okS x := by
  cases h with
  | str _ hx => exact ⟨rfl, hx⟩
theorem allB_at {α : Type} (l : List α) (f : α → Bool) {i : Nat} {d : α} (h : l[i]? = some d) : (l.map fun x => V.bl (f x))[i]? = some (V.bl (f d)) := by
  rw [List.getElem?_map, h]
  rfl
section
variable {P : Program} {w : World} {K : PySem.W.Frag} {mg : Str → Option Value} {base : Heap}
theorem scEnds : FnScope ["ends", "partners", "sort"] ["ends", "partners"] (defScope sEnds) := ⟨rfl, rfl, rfl, by decide +kernel, rfl, by decide +kernel, by decide +kernel⟩
theorem ok_ends {f fN : Addr} {fd fdN : FuncData} (F : Fun K "_are_ends" "_are_ends" sEnds f fd) (M : Mods mg) (GN : FnOk P w K mg base CX0 1 fN fdN ["thing"] spName) (kN : PySem.W.keepIn K (.ref fN) = true) (bN : Binds K fdN ["thing"] []) (gN : mg "is_name" = some (.ref fN)) :
    FnOk P w K mg base CX0 2 f fd ["ends", "partners"] spEnds := by
  obtain ⟨te, hme⟩ := M.me
  refine F.ok scEnds (fun vs H Q E h => ?_) (fun cdv A outer s H vs Q E hr h => ?_)
  · obtain ⟨v, d, p, rows, rfl, _⟩ := h
    rfl
  · obtain ⟨v, d, p, rows, rfl, hd, hp, k⟩ := h
    refine ⟨_, pss_cons (ps_if (PW.pt (pw_or (pt_not (pt_val (pe_callB (call_isd (T := "tuple")) (by rfl) M.isi (by decide +kernel) (pa_cons (pv 0) (pa_cons (pe_bltn (v := .ty "tuple") (by rfl) M.tup_ (by decide +kernel) rfl) pa_nil)))))
        (pw_or1 (pt_not (pt_chain op_le op_le pe_int (pe_callB call_len_seq (by rfl) M.len PySem.boot_len (pa_cons (pv 0) pa_nil)) (pe_glob (v := .int 5) (by rfl) hme ⟨_, rfl⟩)))))) (pss_one (ps_ret pe_bl)) pss_nil)
      (pss_cons (ps_if (pt_not (pt_val (pe_callB (cr_all rfl) (by rfl) M.all_ (by decide +kernel) (pa_cons (pe_lc (own := [("sort", 2)]) (g := gName 2) (tt := tYes) (te := tAndV (tCall spName [] E0 (tCons (tVar 2) tNil)) (tDIn (tVar 2) (tVar 1))) rfl scEnds.nd (pi_tup (pv 0)) (blkOk_by (N := ["ends", "partners", "sort"]) (sc := defScope sEnds) (by decide +kernel)) (fun _ _ _ _ _ => pg_name (i := 2) scEnds.nd rfl (Or.inl rfl)) (fun _ _ _ _ _ => pts_nil)
          (fun _ _ _ _ _ => (by exact pe_and (pe_call GN hr (by rfl) gN kN bN .nil pass0 (pa_cons (pv 2) pa_nil)) (pe_one (pe_cmp (pc_din (hu_of hr) (pv 2) (pv 1)) rfl))))) pa_nil)))) (pss_one (ps_ret pe_bl)) pss_nil)
      (pss_one (ps_ret (pe_cmpR (op_eqD hr.units) (pe_callTy call_list_of (by rfl) M.lst_ (by decide +kernel) (pa_cons (pv 0) pa_nil)) (pe_callB cr_sortTS (by rfl) M.srt (by decide +kernel) (pa_cons (pv 0) pa_nil)) (nomark _))))), ?_⟩
    refine ⟨_, rfl, v, d, _, rfl, hd, kit_tuple d, _, rfl, ?_⟩
    cases hd with
    | non => exact k _ (Same.refl _)
    | bl b => exact k _ (Same.refl _)
    | int i => exact k _ (Same.refl _)
    | str x _ => exact k _ (Same.refl _)
    | lst e l r => exact k _ (Same.refl _)
    | dct e => exact k _ (Same.refl _)
    | @tup a xs ds e l r =>
      have k' : ∀ H', Same H H' → Q (.bl ((decide (1 ≤ ds.length) && decide (ds.length ≤ 5)) && ((ds.all fun d => nameD d && decide (strO d ∈ rows.map (·.1))) && sortedS (ds.map strO)))) H' := k
      refine ⟨_, rfl, a, xs, rfl, .inr (SqT.of e), _, _, rfl, rfl, _, rfl, ite2 (fun h1 => ?_) (fun h1 => ?_)⟩
      · have len1 : (1 : Int) ≤ (xs.length : Int) := of_decide_eq_true h1
        refine ⟨_, _, rfl, rfl, _, rfl, ?_⟩
        rw [← r.len] at k'
        rw [decide_eq_true (by omega : 1 ≤ xs.length), Bool.true_and] at k'
        by_cases h5 : (xs.length : Int) ≤ 5
        · rw [decide_eq_true h5]
          rw [decide_eq_true (by omega : xs.length ≤ 5), Bool.true_and] at k'
          refine ⟨_, rfl, a, rfl, ⟨_, SqT.of e⟩, fun D hD => ?_⟩
          refine lc_mapW (walk_tup (K := K) (a := a) (xs := xs)) (ds.map fun d => V.bl (nameD d && decide (strO d ∈ rows.map (·.1)))) (by rw [List.length_map, r.len]) l hD (fun H1 s1 => SqT.of (s1 _ _ e)) (fun i H x H' h => by rw [h.1]; exact Same.refl _) (fun i y H1 H2 R hi s1 hy hR => ?_) (fun H1 s1 hD1 => ?_)
          · obtain ⟨rfl, hy⟩ := hy
            obtain ⟨di, hdi, hDi⟩ := r.at_ hy
            have hR' := hR (.bl (nameD di && decide (strO di ∈ rows.map (·.1))))
            refine ⟨rfl, _, rfl, y, di, rfl, hDi.same s1, fun H3 s3 => ⟨_, rfl, ?_⟩⟩
            by_cases hn : nameD di = true
            · obtain ⟨x, rfl⟩ := name_str hn
              obtain ⟨rfl, _⟩ := dt_str hDi
              rw [hn] at hR' ⊢
              refine ⟨_, rfl, _, rfl, p, _, rfl, dget_rows (.inl ((s1.trans s3) _ _ hp)) x, ?_⟩
              rw [val_rows]
              exact hR' _ (by rw [allB_at ds _ hdi, hn]) s3
            · have hn' : nameD di = false := by simpa using hn
              rw [hn'] at hR' ⊢
              exact hR' _ (by rw [allB_at ds _ hdi, hn']) s3
          · refine ⟨D, ds.map fun d => (nameD d && decide (strO d ∈ rows.map (·.1))), rfl, ?_, _, rfl, ?_⟩
            · rw [List.map_map]
              exact SqL.of hD1
            · rw [List.all_map]
              have eall : (ds.all (id ∘ fun d => nameD d && decide (strO d ∈ rows.map (·.1)))) = ds.all fun d => nameD d && decide (strO d ∈ rows.map (·.1)) := rfl
              rw [eall]
              by_cases hall : (ds.all fun d => nameD d && decide (strO d ∈ rows.map (·.1))) = true
              · rw [hall] at k' ⊢
                rw [Bool.true_and] at k'
                have hnm : ∀ d ∈ ds, nameD d = true := fun d hdm => by
                  have q := List.all_eq_true.mp hall d hdm
                  rw [Bool.and_eq_true] at q
                  exact q.1
                obtain ⟨ex, ed⟩ := strs_of r hnm
                have e1 : H1 a = some (.tup ((ds.map strO).map V.str)) := by
                  rw [← ex]
                  exact s1 _ _ e
                refine ⟨_, rfl, a, _, rfl, .inr (SqT.of e1), fun l1 n1 => ?_⟩
                have t1 := same_new (o := .lst ((ds.map strO).map V.str)) n1
                refine ⟨_, rfl, a, ds.map strO, rfl, SqT.of (t1 _ _ e1), by rw [List.length_map, ← r.len]; omega, fun ys l2 pm so n2 => ?_⟩
                have can0 : PyData.canLayAll0 ds = true := r.can (by rw [ed]; exact noDicts_strs _)
                have can1 : PyData.canLayAll0 ((ds.map strO).map .str) = true := by
                  rw [← ed]
                  exact can0
                have allS : ∀ zs : List Str, (∀ z ∈ zs, PyData.strOk z = true) → PyData.canLayAll0 (zs.map .str) = true := by
                  intro zs
                  induction zs with
                  | nil => exact fun _ => rfl
                  | cons z zs ih =>
                    intro hz
                    show (PyData.strOk z && PyData.canLayAll0 (zs.map .str)) = true
                    rw [hz z List.mem_cons_self, ih fun q hq => hz q (List.mem_cons_of_mem _ hq)]
                    rfl
                have okx : ∀ zs : List Str, PyData.canLayAll0 (zs.map .str) = true → ∀ z ∈ zs, PyData.strOk z = true := by
                  intro zs
                  induction zs with
                  | nil => exact fun _ z hz => nomatch hz
                  | cons z zs ih =>
                    intro hz q hq
                    have hz2 : (PyData.strOk z && PyData.canLayAll0 (zs.map .str)) = true := hz
                    rw [Bool.and_eq_true] at hz2
                    rcases List.mem_cons.mp hq with rfl | hq
                    · exact hz2.1
                    · exact ih hz2.2 q hq
                have can2 : PyData.canLayAll0 (ys.map .str) = true := allS ys fun z hz => okx _ can1 z (pm.mem_iff.mp hz)
                have dpS : ∀ (zs : List Str) (Hq : Hp), DpAll K Hq (zs.map V.str) (zs.map .str) := by
                  intro zs Hq
                  induction zs with
                  | nil => exact .nil
                  | cons z zs ih => exact .cons (.str z) ih
                have t2 := same_new (o := .lst (ys.map V.str)) n2
                refine ⟨.list ((ds.map strO).map .str), .list (ys.map .str), .lst (SqL.of (t2 _ _ upd_same)) (dpS _ _), .lst (SqL.of upd_same) (dpS _ _), shaped_strs can1, shaped_strs can2, ?_⟩
                have e3 : PyData.eqv (.list ((ds.map strO).map .str)) (.list (ys.map .str)) = sortedS (ds.map strO) := by
                  show PyData.eqvAll ((ds.map strO).map .str) (ys.map .str) = _
                  rw [eqv_strs]
                  by_cases q : sortedS (ds.map strO) = true
                  · rw [q]
                    exact decide_eq_true (sorted_one q so pm.symm)
                  · have q2 : sortedS (ds.map strO) = false := by simpa using q
                    rw [q2]
                    exact decide_eq_false fun z => q (by rw [z]; exact so)
                rw [e3]
                exact k' _ ((s1.trans t1).trans t2)
              · have hall' : (ds.all fun d => nameD d && decide (strO d ∈ rows.map (·.1))) = false := by simpa using hall
                rw [hall'] at k' ⊢
                exact k' _ s1
        · rw [decide_eq_false h5]
          rw [decide_eq_false (by omega : ¬ xs.length ≤ 5), Bool.false_and] at k'
          exact k' _ (Same.refl _)
      · have h2 : ¬ 1 ≤ ds.length := fun q => h1 (decide_eq_true (by rw [r.len]; omega))
        rw [decide_eq_false h2, Bool.false_and, Bool.false_and] at k'
        exact ⟨_, rfl, k' _ (Same.refl _)⟩
theorem scKind : FnScope ["row", "partners"] ["row", "partners"] (defScope sKind) := ⟨rfl, rfl, rfl, by decide +kernel, rfl, by decide +kernel, by decide +kernel⟩
theorem ok_kind {f fP fN fE : Addr} {fd fdP fdN fdE : FuncData} (F : Fun K "_is_kind" "_is_kind" sKind f fd)
    (GP : FnOk P w K mg base CX0 1 fP fdP ["thing"] spPair) (kP : PySem.W.keepIn K (.ref fP) = true) (bP : Binds K fdP ["thing"] []) (gP : mg "is_pair" = some (.ref fP))
    (GN : FnOk P w K mg base CX0 1 fN fdN ["thing"] spName) (kN : PySem.W.keepIn K (.ref fN) = true) (bN : Binds K fdN ["thing"] []) (gN : mg "is_name" = some (.ref fN))
    (GE : FnOk P w K mg base CX0 2 fE fdE ["ends", "partners"] spEnds) (kE : PySem.W.keepIn K (.ref fE) = true) (bE : Binds K fdE ["ends", "partners"] []) (gE : mg "_are_ends" = some (.ref fE)) :
    FnOk P w K mg base CX0 3 f fd ["row", "partners"] spKind := by
  refine F.ok scKind (fun vs H Q E h => ?_) (fun cdv A outer s H vs Q E hr h => ?_)
  · obtain ⟨v, d, p, rows, rfl, _⟩ := h
    rfl
  · obtain ⟨v, d, p, rows, rfl, hd, hp, k⟩ := h
    have hr1 : Room 1 _ := hr.mono (by decide)
    refine ⟨_, pss_one (ps_ret (pe_and (pe_call GP hr1 (by rfl) gP kP bP .nil pass0 (pa_cons (pv 0) pa_nil)) (pe_and (pe_call GN hr1 (by rfl) gN kN bN .nil pass0 (pa_cons (pe_ix ix_tup (pv 0) pe_int (fun _ _ => rfl)) pa_nil))
      (pe_one (pe_call GE hr (by rfl) gE kE bE .nil pass0 (pa_cons (pe_ix ix_tup (pv 0) pe_int (fun _ _ => rfl)) (pa_cons (pv 1) pa_nil))))))), ?_⟩
    refine ⟨_, rfl, v, d, rfl, hd, _, rfl, ?_⟩
    by_cases hpr : pairD d = true
    · rw [hpr]
      cases hd with
      | @tup a xs ds e l r =>
        have h2 : ds.length = 2 := of_decide_eq_true hpr
        match xs, ds, r, h2 with
        | _, [d0, d1], .cons (v := v0) h0 (.cons (v := v1) h1 .nil), _ =>
          have kk : ∀ H', Same H H' → Q (.bl (nameD d0 && endsD (rows.map (·.1)) d1)) H' := k
          refine ⟨_, rfl, a, _, _, _, rfl, rfl, SqT.of e, atI_nat (j := 0) rfl, v0, d0, rfl, h0, fun H1 s1 => ⟨_, rfl, ?_⟩⟩
          by_cases hn : nameD d0 = true
          · rw [hn] at kk ⊢
            rw [Bool.true_and] at kk
            refine ⟨_, rfl, a, _, _, _, rfl, rfl, SqT.of (s1 _ _ e), atI_nat (j := 1) rfl, _, rfl, v1, d1, p, rows, rfl, h1.same s1, s1 _ _ hp, fun H2 s2 => kk _ (s1.trans s2)⟩
          · have hn' : nameD d0 = false := by simpa using hn
            rw [hn'] at kk ⊢
            exact kk _ s1
      | _ => cases hpr
    · have hpr' : pairD d = false := by simpa using hpr
      rw [hpr']
      have e : kindD (rows.map (·.1)) d = false := by
        cases d with
        | tuple ds =>
          match ds, hpr' with
          | [], _ => rfl
          | [_], _ => rfl
          | [_, _], h => cases h
          | _ :: _ :: _ :: _, _ => rfl
        | _ => rfl
      have k2 := k H (Same.refl _)
      rw [e] at k2
      exact k2
end
end Toy
set_option Elab.async false
set_option linter.all false
set_option maxRecDepth 100000
set_option maxHeartbeats 4000000
namespace Toy
open PySem PySem.Spec PyProof.Rows L2
/-! ### dict(pairs) -/
theorem keys_putK {κ : Type} [DecidableEq κ] (kvs : List (κ × V)) (k : κ) (v : V) : (putK kvs k v).map (·.1) = addMet (kvs.map (·.1)) k := by
  unfold putK addMet
  by_cases h : (kvs.any fun kv => decide (kv.1 = k)) = true
  · have hm : k ∈ kvs.map (·.1) := by
      obtain ⟨q, hq, e⟩ := List.any_eq_true.mp h
      exact List.mem_map.mpr ⟨q, hq, of_decide_eq_true e⟩
    rw [if_pos h, if_pos hm, List.map_map]
    refine List.map_congr_left fun q _ => ?_
    show (if q.1 = k then (q.1, v) else q).1 = q.1
    split <;> rfl
  · have hm : k ∉ kvs.map (·.1) := fun z => h (by
      obtain ⟨q, hq, e⟩ := List.mem_map.mp z
      exact List.any_eq_true.mpr ⟨q, hq, decide_eq_true e⟩)
    rw [if_neg h, if_neg hm, List.map_append]
    rfl
theorem keys_mergeK : ∀ (more kvs : List (Key × V)), (mergeK kvs more).map (·.1) = (more.map (·.1)).foldl addMet (kvs.map (·.1))
  | [], _ => rfl
  | m :: more, kvs => by
    show (mergeK (putK kvs m.1 m.2) more).map (·.1) = _
    rw [keys_mergeK more, keys_putK]
    rfl
theorem mergeK_nodup : ∀ (more kvs : List (Key × V)), ((kvs ++ more).map (·.1)).Nodup → mergeK kvs more = kvs ++ more
  | [], kvs, _ => by rw [List.append_nil]; rfl
  | m :: more, kvs, h => by
    show mergeK (putK kvs m.1 m.2) more = _
    have hno : valV kvs m.1 = none := by
      cases e : valV kvs m.1 with
      | none => rfl
      | some v =>
        have hin := valV_in e
        rw [List.map_append, List.map_cons, List.nodup_append] at h
        exact absurd rfl (h.2.2 m.1 hin m.1 List.mem_cons_self)
    rw [putK_new m.2 hno, mergeK_nodup more _ (by rw [List.append_assoc]; exact h), List.append_assoc]
    rfl
theorem keys_rows (rows : Rows2) : (rows.map kvOf).map (·.1) = (rows.map (·.1)).map (Sum.inr : Str → Key) := by
  rw [List.map_map, List.map_map]
  rfl
theorem inr_nodup : ∀ xs : List Str, (xs.map (Sum.inr : Str → Key)).Nodup ↔ xs.Nodup
  | [] => ⟨fun _ => List.nodup_nil, fun _ => List.nodup_nil⟩
  | x :: xs => by
    rw [List.map_cons, List.nodup_cons, List.nodup_cons, inr_nodup xs]
    refine and_congr (not_congr ⟨fun h => ?_, fun h => List.mem_map.mpr ⟨x, h, rfl⟩⟩) Iff.rfl
    obtain ⟨y, hy, e⟩ := List.mem_map.mp h
    exact (Sum.inr.inj e) ▸ hy
theorem dict_len (rows : Rows2) : (mergeK [] (rows.map kvOf)).length ≤ rows.length ∧ ((mergeK [] (rows.map kvOf)).length = rows.length ↔ (rows.map (·.1)).Nodup) := by
  have e : (mergeK [] (rows.map kvOf)).length = (met ((rows.map (·.1)).map (Sum.inr : Str → Key))).length := by
    rw [← List.length_map (f := fun kv : Key × V => kv.1), keys_mergeK, keys_rows]
    rfl
  have e2 : ((rows.map (·.1)).map (Sum.inr : Str → Key)).length = rows.length := by rw [List.length_map, List.length_map]
  refine ⟨by rw [e, ← e2]; exact met_le _, ?_⟩
  rw [e, ← inr_nodup, ← met_full, e2]
theorem dict_is {rows : Rows2} (h : (rows.map (·.1)).Nodup) : mergeK [] (rows.map kvOf) = rows.map kvOf :=
  mergeK_nodup _ [] (by rw [List.nil_append, keys_rows]; exact (inr_nodup _).mpr h)
theorem val_at : ∀ {rows : Rows2} {i : Nat} {r : Str × Str}, (rows.map (·.1)).Nodup → rows[i]? = some r → valV (rows.map kvOf) (Sum.inr r.1) = some (.str r.2)
  | [], i, r, _, e => by simp at e
  | q :: rows, 0, r, _, e => by
    have e2 : q = r := Option.some.inj e
    subst e2
    exact valV_pos rfl
  | q :: rows, i + 1, r, h, e => by
    rw [List.map_cons, List.nodup_cons] at h
    have e2 : rows[i]? = some r := e
    have hm : r.1 ∈ rows.map (·.1) := List.mem_map.mpr ⟨r, List.mem_of_getElem? e2, rfl⟩
    rw [List.map_cons, valV_neg (p := kvOf q) (fun z => h.1 (by rw [Sum.inr.inj z]; exact hm))]
    exact val_at h.2 e2
theorem val_str : ∀ {rows : Rows2} {k : Key} {v : V}, valV (rows.map kvOf) k = some v → ∃ y, v = .str y
  | [], _, _, e => by cases e
  | q :: rows, k, v, e => by
    by_cases h : (kvOf q).1 = k
    · rw [List.map_cons, valV_pos h] at e
      exact ⟨q.2, (Option.some.inj e).symm⟩
    · rw [List.map_cons, valV_neg h] at e
      exact val_str e
/-! ### sorts -/
def rowD : PyData → Bool
  | .tuple [a, b] => nameD a && nameD b
  | _ => false
def rowOf : PyData → Str × Str
  | .tuple [a, b] => (strO a, strO b)
  | _ => (Str.empty, Str.empty)
def mutualB (rows : Rows2) : Bool := rows.all fun r => decide (valV (rows.map kvOf) (Sum.inr r.2) = some (.str r.1))
def sortsD : PyData → Bool
  | .list ds => (decide (1 ≤ ds.length) && decide (ds.length ≤ 3)) && (ds.all rowD && (decide ((ds.map rowOf).map (·.1)).Nodup && mutualB (ds.map rowOf)))
  | _ => false
def spSorts : Sp := fun vs H Q _ => ∃ (v : V) (d : PyData), vs = [v] ∧ Dt H v d ∧ ∀ H', Same H H' → Q (.bl (sortsD d)) H'
theorem rows_of {K : PySem.W.Frag} {H : Hp} : ∀ {xs : List V} {ds : List PyData}, DtAll H xs ds → (∀ d ∈ ds, rowD d = true) → ∃ ps : List Addr, xs = ps.map V.ref ∧ Paired (fun p kv => SqT K H p [kV kv.1, kv.2]) ps ((ds.map rowOf).map kvOf)
  | _, _, .nil, _ => ⟨[], rfl, .nil⟩
  | _, _, .cons (v := v) (d := d) h t, n => by
    obtain ⟨ps, e1, e2⟩ := rows_of (K := K) t fun d hd => n d (List.mem_cons_of_mem _ hd)
    have n0 := n _ List.mem_cons_self
    cases h with
    | @tup a xs ds e l r =>
      match xs, ds, r, n0 with
      | _, [d0, d1], .cons h0 (.cons h1 .nil), n0 =>
        have n2 : (nameD d0 && nameD d1) = true := n0
        rw [Bool.and_eq_true] at n2
        obtain ⟨x, rfl⟩ := name_str n2.1
        obtain ⟨y, rfl⟩ := name_str n2.2
        obtain ⟨rfl, _⟩ := dt_str h0
        obtain ⟨rfl, _⟩ := dt_str h1
        exact ⟨a :: ps, by rw [e1]; rfl, .cons (SqT.of e) e2⟩
    | _ => cases n0
section
variable {P : Program} {w : World} {K : PySem.W.Frag} {mg : Str → Option Value} {base : Heap}
theorem scKinds : FnScope ["kinds", "partners", "row"] ["kinds", "partners"] (defScope sKinds) := ⟨rfl, rfl, rfl, by decide +kernel, rfl, by decide +kernel, by decide +kernel⟩
theorem ok_kinds {f fL fK fU : Addr} {fd fdL fdK fdU : FuncData} (F : Fun K "_are_kinds" "_are_kinds" sKinds f fd) (M : Mods mg)
    (GL : FnOk P w K mg base CX0 1 fL fdL ["thing", "fewest", "most"] spList) (kL : PySem.W.keepIn K (.ref fL) = true) (bL : Binds K fdL ["thing", "fewest", "most"] []) (gL : mg "is_list" = some (.ref fL))
    (GK : FnOk P w K mg base CX0 3 fK fdK ["row", "partners"] spKind) (kK : PySem.W.keepIn K (.ref fK) = true) (bK : Binds K fdK ["row", "partners"] []) (gK : mg "_is_kind" = some (.ref fK))
    (GU : FnOk P w K mg base CX0 1 fU fdU ["things"] (spUnlike K)) (kU : PySem.W.keepIn K (.ref fU) = true) (bU : Binds K fdU ["things"] []) (gU : mg "are_unlike" = some (.ref fU)) :
    FnOk P w K mg base CX0 4 f fd ["kinds", "partners"] spKinds := by
  obtain ⟨tk, hmk⟩ := M.mkd
  refine F.ok scKinds (fun vs H Q E h => ?_) (fun cdv A outer s H vs Q E hr h => ?_)
  · obtain ⟨v, d, p, rows, rfl, _⟩ := h
    rfl
  · obtain ⟨v, d, p, rows, rfl, hd, hp, k⟩ := h
    have hr1 : Room 1 _ := hr.mono (by decide)
    refine ⟨_, pss_cons (ps_if (pt_not (pt_val (pe_call GL hr1 (by rfl) gL kL bL .nil pass0 (pa_cons (pv 0) (pa_cons pe_int (pa_cons (pe_glob (v := .int 4) (by rfl) hmk ⟨_, rfl⟩) pa_nil)))))) (pss_one (ps_ret pe_bl)) pss_nil)
      (pss_cons (ps_if (pt_not (pt_val (pe_callB (cr_all rfl) (by rfl) M.all_ (by decide +kernel) (pa_cons (pe_lc (own := [("row", 2)]) (g := gName 2) (tt := tYes) (te := tCall spKind [] E0 (tCons (tVar 2) (tCons (tVar 1) tNil))) rfl scKinds.nd (pi_list (pv 0)) (blkOk_by (N := ["kinds", "partners", "row"]) (sc := defScope sKinds) (by decide +kernel)) (fun _ _ _ _ _ => pg_name (i := 2) scKinds.nd rfl (Or.inl rfl)) (fun _ _ _ _ _ => pts_nil)
          (fun _ _ _ _ _ => (by exact pe_call GK hr (by rfl) gK kK bK .nil pass0 (pa_cons (pv 2) (pa_cons (pv 1) pa_nil))))) pa_nil)))) (pss_one (ps_ret pe_bl)) pss_nil)
      (pss_one (ps_ret (pe_call GU hr1 (by rfl) gU kU bU .nil pass0 (pa_cons (pe_lc (own := [("row", 2)]) (g := gName 2) (tt := tYes) (te := tOp (rIxT K) (tVar 2) (tC (.int 0))) rfl scKinds.nd (pi_list (pv 0)) (blkOk_by (N := ["kinds", "partners", "row"]) (sc := defScope sKinds) (by decide +kernel)) (fun _ _ _ _ _ => pg_name (i := 2) scKinds.nd rfl (Or.inl rfl)) (fun _ _ _ _ _ => pts_nil)
          (fun _ _ _ _ _ => (by exact pe_ix ix_tup (pv 2) pe_int (fun _ _ => rfl)))) pa_nil))))), ?_⟩
    refine ⟨_, rfl, v, d, 1, 4, rfl, hd, _, rfl, ?_⟩
    by_cases hl : listD 1 4 d = true
    · rw [hl]
      cases hd with
      | @lst a xs ds e l r =>
        have hl2 : (decide ((1 : Int) ≤ (ds.length : Int)) && decide ((ds.length : Int) ≤ 4)) = true := hl
        rw [Bool.and_eq_true, decide_eq_true_eq, decide_eq_true_eq] at hl2
        have k' : ∀ H', Same H H' → Q (.bl ((decide (1 ≤ ds.length) && decide (ds.length ≤ 4)) && ((ds.all (kindD (rows.map (·.1)))) && decide (ds.map name0).Nodup))) H' := k
        rw [decide_eq_true (by omega : 1 ≤ ds.length), decide_eq_true (by omega : ds.length ≤ 4), Bool.true_and, Bool.true_and] at k'
        refine ⟨_, rfl, a, rfl, ⟨_, SqL.of e⟩, fun D hD => ?_⟩
        refine lc_mapW (walk_list (K := K) (a := a) (xs := xs)) (ds.map fun d => V.bl (kindD (rows.map (·.1)) d)) (by rw [List.length_map, r.len]) l hD (fun H1 s1 => SqL.of (s1 _ _ e)) (fun i H x H' h => by rw [h.1]; exact Same.refl _) (fun i y H1 H2 R hi s1 hy hR => ?_) (fun H1 s1 hD1 => ?_)
        · obtain ⟨rfl, hy⟩ := hy
          obtain ⟨di, hdi, hDi⟩ := r.at_ hy
          exact ⟨rfl, _, rfl, _, rfl, y, di, p, rows, rfl, hDi.same s1, s1 _ _ hp, fun H3 s3 => hR _ _ (allB_at ds _ hdi) s3⟩
        · refine ⟨D, ds.map (kindD (rows.map (·.1))), rfl, ?_, _, rfl, ?_⟩
          · rw [List.map_map]
            exact SqL.of hD1
          · rw [List.all_map]
            have eall : (ds.all (id ∘ kindD (rows.map (·.1)))) = ds.all (kindD (rows.map (·.1))) := rfl
            rw [eall]
            by_cases hall : ds.all (kindD (rows.map (·.1))) = true
            · rw [hall] at k' ⊢
              rw [Bool.true_and] at k'
              refine ⟨_, rfl, a, rfl, ⟨_, SqL.of (s1 _ _ e)⟩, fun D2 hD2 => ?_⟩
              refine lc_mapW (walk_list (K := K) (a := a) (xs := xs)) ((ds.map name0).map V.str) (by rw [List.length_map, List.length_map, r.len]) l hD2 (fun H2 s2 => SqL.of (s2 _ _ (s1 _ _ e))) (fun i H x H' h => by rw [h.1]; exact Same.refl _) (fun i y H2 H3 R hi s2 hy hR => ?_) (fun H2 s2 hD3 => ?_)
              · obtain ⟨rfl, hy⟩ := hy
                obtain ⟨di, hdi, hDi⟩ := r.at_ hy
                have hk := List.all_eq_true.mp hall di (List.mem_of_getElem? hdi)
                have s12 := s1.trans s2
                cases hDi with
                | @tup b zs es eb lb rb =>
                  match zs, es, rb, hk with
                  | _, [d0, d1], .cons h0 (.cons h1 .nil), hk =>
                    have hk2 : (nameD d0 && endsD (rows.map (·.1)) d1) = true := hk
                    rw [Bool.and_eq_true] at hk2
                    obtain ⟨x, rfl⟩ := name_str hk2.1
                    obtain ⟨rfl, _⟩ := dt_str h0
                    refine ⟨rfl, _, rfl, b, _, _, _, rfl, rfl, SqT.of (s12 _ _ eb), atI_nat (j := 0) rfl, hR _ _ ?_ (Same.refl _)⟩
                    rw [List.getElem?_map, List.getElem?_map, hdi]
                    rfl
                | _ => cases hk
              · refine ⟨D2, ds.map name0, rfl, SqL.of hD3, by rw [List.length_map]; omega, ?_⟩
                exact k' _ (s1.trans s2)
            · have hall' : ds.all (kindD (rows.map (·.1))) = false := by simpa using hall
              rw [hall'] at k' ⊢
              exact k' _ s1
      | _ => cases hl
    · have hl' : listD 1 4 d = false := by simpa using hl
      rw [hl']
      have e : kindsD (rows.map (·.1)) d = false := by
        cases d with
        | list ds =>
          have hl2 : (decide ((1 : Int) ≤ (ds.length : Int)) && decide ((ds.length : Int) ≤ 4)) = false := hl'
          have e2 : (decide (1 ≤ ds.length) && decide (ds.length ≤ 4)) = (decide ((1 : Int) ≤ (ds.length : Int)) && decide ((ds.length : Int) ≤ 4)) := by
            congr 1
            · exact decide_eq_decide.mpr (by omega)
            · exact decide_eq_decide.mpr (by omega)
          show ((decide (1 ≤ ds.length) && decide (ds.length ≤ 4)) && _) = false
          rw [e2, hl2, Bool.false_and]
        | _ => rfl
      have k2 := k H (Same.refl _)
      rw [e] at k2
      exact k2
theorem scSorts : FnScope ["sorts", "partners", "row", "sort"] ["sorts"] (defScope sSorts) := ⟨rfl, rfl, rfl, by decide +kernel, rfl, by decide +kernel, by decide +kernel⟩
theorem ok_sorts {f fL fP fN : Addr} {fd fdL fdP fdN : FuncData} (F : Fun K "_are_sorts" "_are_sorts" sSorts f fd) (M : Mods mg)
    (GL : FnOk P w K mg base CX0 1 fL fdL ["thing", "fewest", "most"] spList) (kL : PySem.W.keepIn K (.ref fL) = true) (bL : Binds K fdL ["thing", "fewest", "most"] []) (gL : mg "is_list" = some (.ref fL))
    (GP : FnOk P w K mg base CX0 1 fP fdP ["thing"] spPair) (kP : PySem.W.keepIn K (.ref fP) = true) (bP : Binds K fdP ["thing"] []) (gP : mg "is_pair" = some (.ref fP))
    (GN : FnOk P w K mg base CX0 1 fN fdN ["thing"] spName) (kN : PySem.W.keepIn K (.ref fN) = true) (bN : Binds K fdN ["thing"] []) (gN : mg "is_name" = some (.ref fN)) :
    FnOk P w K mg base CX0 2 f fd ["sorts"] spSorts := by
  obtain ⟨tk, hms⟩ := M.ms
  refine F.ok scSorts (fun vs H Q E h => ?_) (fun cdv A outer s H vs Q E hr h => ?_)
  · obtain ⟨v, d, rfl, _⟩ := h
    rfl
  · obtain ⟨v, d, rfl, hd, k⟩ := h
    refine ⟨_, pss_cons (ps_if (pt_not (pt_val (pe_call GL hr (by rfl) gL kL bL .nil pass0 (pa_cons (pv 0) (pa_cons pe_int (pa_cons (pe_glob (v := .int 3) (by rfl) hms ⟨_, rfl⟩) pa_nil)))))) (pss_one (ps_ret pe_bl)) pss_nil)
      (pss_cons (ps_if (pt_not (pt_val (pe_callB (cr_all rfl) (by rfl) M.all_ (by decide +kernel) (pa_cons (pe_lc (own := [("row", 2)]) (g := gName 2) (tt := tYes)
          (te := tAndV (tCall spPair [] E0 (tCons (tVar 2) tNil)) (tAndV (tCall spName [] E0 (tCons (tOp (rIxT K) (tVar 2) (tC (.int 0))) tNil)) (tCall spName [] E0 (tCons (tOp (rIxT K) (tVar 2) (tC (.int 1))) tNil))))
          rfl scSorts.nd (pi_list (pv 0)) (blkOk_by (N := ["sorts", "partners", "row", "sort"]) (sc := defScope sSorts) (by decide +kernel)) (fun _ _ _ _ _ => pg_name (i := 2) scSorts.nd rfl (Or.inl rfl)) (fun _ _ _ _ _ => pts_nil)
          (fun _ _ _ _ _ => (by exact pe_and (pe_call GP hr (by rfl) gP kP bP .nil pass0 (pa_cons (pv 2) pa_nil)) (pe_and (pe_call GN hr (by rfl) gN kN bN .nil pass0 (pa_cons (pe_ix ix_tup (pv 2) pe_int (fun _ _ => rfl)) pa_nil)) (pe_one (pe_call GN hr (by rfl) gN kN bN .nil pass0 (pa_cons (pe_ix ix_tup (pv 2) pe_int (fun _ _ => rfl)) pa_nil))))))) pa_nil)))) (pss_one (ps_ret pe_bl)) pss_nil)
      (pss_cons (ps_set (i := 1) scSorts.nd rfl (Or.inr rfl) (pe_callTy (call_dictP rfl) (by rfl) M.dict_ (by decide +kernel) (pa_cons (pv 0) pa_nil)))
      (pss_cons (ps_if (pt_cmpR op_lt (pe_callB call_lenD (by rfl) M.len PySem.boot_len (pa_cons (pv 1) pa_nil)) (pe_callB call_len_seq (by rfl) M.len PySem.boot_len (pa_cons (pv 0) pa_nil)) (nomark _)) (pss_one (ps_ret pe_bl)) pss_nil)
      (pss_one (ps_ret (pe_callB (cr_all rfl) (by rfl) M.all_ (by decide +kernel) (pa_cons (pe_lock (pe_lc (own := [("sort", 3)]) (g := gName 3) (tt := tYes) (te := tOp rEq (tDGet1 (tVar 1) (tDGet (tVar 1) (tVar 3))) (tVar 3))
          rfl scSorts.nd (pi_keys (pv 1)) (blkOk_by (N := ["sorts", "partners", "row", "sort"]) (sc := defScope sSorts) (by decide +kernel)) (fun _ _ _ _ _ => pg_name (i := 3) scSorts.nd rfl (Or.inl rfl)) (fun _ _ _ _ _ => pts_nil)
          (fun _ _ _ _ _ => (by exact pe_cmpR op_eq (pe_dget1 (hu_of hr) (pv 1) (pe_dget (hu_of hr) (pv 1) (pv 3) (fun _ _ => rfl)) ⟨rfl, rfl, rfl, rfl⟩) (pv 3) (nomark _))))) pa_nil))))))), ?_⟩
    refine ⟨_, rfl, v, d, 1, 3, rfl, hd, _, rfl, ?_⟩
    by_cases hl : listD 1 3 d = true
    · rw [hl]
      cases hd with
      | @lst a xs ds e l r =>
        have hl2 : (decide ((1 : Int) ≤ (ds.length : Int)) && decide ((ds.length : Int) ≤ 3)) = true := hl
        rw [Bool.and_eq_true, decide_eq_true_eq, decide_eq_true_eq] at hl2
        have k' : ∀ H', Same H H' → Q (.bl ((decide (1 ≤ ds.length) && decide (ds.length ≤ 3)) && (ds.all rowD && (decide ((ds.map rowOf).map (·.1)).Nodup && mutualB (ds.map rowOf))))) H' := k
        rw [decide_eq_true (by omega : 1 ≤ ds.length), decide_eq_true (by omega : ds.length ≤ 3), Bool.true_and, Bool.true_and] at k'
        refine ⟨_, rfl, a, rfl, ⟨_, SqL.of e⟩, fun D hD => ?_⟩
        refine lc_mapW (walk_list (K := K) (a := a) (xs := xs)) (ds.map fun d => V.bl (rowD d)) (by rw [List.length_map, r.len]) l hD (fun H1 s1 => SqL.of (s1 _ _ e)) (fun i H x H' h => by rw [h.1]; exact Same.refl _) (fun i y H1 H2 R hi s1 hy hR => ?_) (fun H1 s1 hD1 => ?_)
        · obtain ⟨rfl, hy⟩ := hy
          obtain ⟨di, hdi, hDi⟩ := r.at_ hy
          have hR' := fun H4 s4 => hR _ H4 (allB_at ds rowD hdi) s4
          refine ⟨rfl, _, rfl, y, di, rfl, hDi.same s1, _, rfl, ?_⟩
          by_cases hpr : pairD di = true
          · rw [hpr]
            cases hDi with
            | @tup b zs es eb lb rb =>
              have h2 : es.length = 2 := of_decide_eq_true hpr
              match zs, es, rb, h2, hR' with
              | _, [d0, d1], .cons (v := v0) h0 (.cons (v := v1) h1 .nil), _, hR' =>
                have kk : ∀ H4, Same H2 H4 → R (.bl (nameD d0 && nameD d1)) H4 := hR'
                refine ⟨_, rfl, b, _, _, _, rfl, rfl, SqT.of (s1 _ _ eb), atI_nat (j := 0) rfl, v0, d0, rfl, h0.same s1, fun H3 s3 => ⟨_, rfl, ?_⟩⟩
                by_cases hn : nameD d0 = true
                · rw [hn] at kk ⊢
                  rw [Bool.true_and] at kk
                  exact ⟨_, rfl, b, _, _, _, rfl, rfl, SqT.of (s3 _ _ (s1 _ _ eb)), atI_nat (j := 1) rfl, v1, d1, rfl, h1.same (s1.trans s3), fun H4 s4 => kk _ (s3.trans s4)⟩
                · have hn' : nameD d0 = false := by simpa using hn
                  rw [hn'] at kk ⊢
                  exact kk _ s3
            | _ => cases hpr
          · have hpr' : pairD di = false := by simpa using hpr
            rw [hpr']
            have e2 : rowD di = false := by
              cases di with
              | tuple es =>
                match es, hpr' with
                | [], _ => rfl
                | [_], _ => rfl
                | [_, _], h => cases h
                | _ :: _ :: _ :: _, _ => rfl
              | _ => rfl
            have k2 := hR' H2 (Same.refl _)
            rw [e2] at k2
            exact k2
        · refine ⟨D, ds.map rowD, rfl, ?_, _, rfl, ?_⟩
          · rw [List.map_map]
            exact SqL.of hD1
          · rw [List.all_map]
            have eall : (ds.all (id ∘ rowD)) = ds.all rowD := rfl
            rw [eall]
            by_cases hall : ds.all rowD = true
            · rw [hall] at k' ⊢
              rw [Bool.true_and] at k'
              obtain ⟨ps, exs, pr⟩ := rows_of (K := K) (r.same s1) (fun d hdm => List.all_eq_true.mp hall d hdm)
              have e1 := s1 _ _ e
              rw [exs] at e1
              refine ⟨_, rfl, a, ps, _, rfl, SqL.of e1, pr, fun dp hdp => ?_⟩
              have t1 := same_new (o := .dK (mergeK [] ((ds.map rowOf).map kvOf))) hdp
              have hdp2 : upd H1 dp (.dK (mergeK [] ((ds.map rowOf).map kvOf))) dp = some (.dK (mergeK [] ((ds.map rowOf).map kvOf))) := upd_same
              generalize upd H1 dp (.dK (mergeK [] ((ds.map rowOf).map kvOf))) = H2 at t1 hdp2 ⊢
              refine ⟨_, rfl, dp, _, rfl, hdp2, _, rfl, a, _, rfl, .inl (SqL.of (t1 _ _ e1)), _, _, rfl, rfl, _, rfl, ite2 (fun hlt => ?_) (fun hlt => ?_)⟩
              · have lt1 := of_decide_eq_true hlt
                have ln := dict_len (ds.map rowOf)
                rw [List.length_map] at ln
                rw [List.length_map] at lt1
                have psl : ps.length = ds.length := by
                  have q := r.len
                  rw [exs, List.length_map] at q
                  exact q
                have nn : ¬ ((ds.map rowOf).map (·.1)).Nodup := fun z => by
                  have q := ln.2.mpr z
                  omega
                have k2 := k' _ (s1.trans t1)
                rw [decide_eq_false nn, Bool.false_and] at k2
                exact k2
              · have ln := dict_len (ds.map rowOf)
                rw [List.length_map] at ln
                have psl : ps.length = ds.length := by
                  have q := r.len
                  rw [exs, List.length_map] at q
                  exact q
                have nd : ((ds.map rowOf).map (·.1)).Nodup := by
                  refine ln.2.mp ?_
                  have q : ¬ (((mergeK [] ((ds.map rowOf).map kvOf)).length : Int) < (ps.map V.ref).length) := fun z => hlt (decide_eq_true z)
                  rw [List.length_map] at q
                  omega
                rw [decide_eq_true nd, Bool.true_and] at k'
                rw [dict_is nd] at hdp2
                generalize hrows : ds.map rowOf = rows at k' hdp2 nd
                have ndp : ∀ b o, H b = some o → b ≠ dp := fun b o eb => ne_of_none (s1 b o eb) hdp
                refine ⟨dp, _, hdp2, trivial, fun od => ?_⟩
                have fz : upd H2 dp (.frz od (.dK (rows.map kvOf))) dp = some (.frz od (.dK (rows.map kvOf))) := upd_same
                have t3 : ∀ b o, H2 b = some o → b ≠ dp → upd H2 dp (.frz od (.dK (rows.map kvOf))) b = some o := fun b o eb nb => (upd_ne nb).trans eb
                generalize upd H2 dp (.frz od (.dK (rows.map kvOf))) = H3 at fz t3 ⊢
                refine ⟨_, rfl, dp, od, rfl, .inl ⟨_, fz, fun D2 hD2 => ?_⟩⟩
                refine lc_mapW (walk_keys (d := dp) (o := od) (kvs := rows.map kvOf)) (rows.map fun r => V.bl (decide (valV (rows.map kvOf) (Sum.inr r.2) = some (.str r.1)))) (by rw [List.length_map, List.length_map]) (by rw [List.length_map, ← hrows, List.length_map]; omega) hD2 (fun H4 s4 => s4 _ _ fz) (fun i H x H' h => by rw [h.1]; exact Same.refl _) (fun i y H4 H5 R hi s4 hy hR => ?_) (fun H4 s4 hD4 => ?_)
                · obtain ⟨rfl, kk, vv, hkv, rfl⟩ := hy
                  rw [List.getElem?_map] at hkv
                  cases hri : rows[i]? with
                  | none =>
                    rw [hri] at hkv
                    cases hkv
                  | some rr =>
                    rw [hri] at hkv
                    cases hkv
                    have v1 := val_at nd hri
                    have rd : Rd H5 dp (.dK (rows.map kvOf)) := .inr ⟨od, s4 _ _ fz⟩
                    have g1 := dget_rows rd rr.1
                    rw [v1] at g1
                    refine ⟨rfl, _, rfl, dp, rfl, .inl ⟨_, rd⟩, _, rfl, _, rfl, dp, _, rfl, g1, _, dget_rows rd rr.2, _, rfl, ?_, ?_⟩
                    · cases ho : valV (rows.map kvOf) (Sum.inr rr.2) with
                      | none => rfl
                      | some z =>
                        obtain ⟨y, rfl⟩ := val_str ho
                        rfl
                    · have e5 : decide ((valV (rows.map kvOf) (Sum.inr rr.2)).getD .non = kV (kvOf rr).1) = decide (valV (rows.map kvOf) (Sum.inr rr.2) = some (.str rr.1)) := by
                        cases ho : valV (rows.map kvOf) (Sum.inr rr.2) with
                        | none => exact (decide_eq_false (by intro z; cases z)).trans (decide_eq_false (by intro z; cases z)).symm
                        | some z =>
                          show decide (z = V.str rr.1) = _
                          by_cases q : z = V.str rr.1
                          · rw [decide_eq_true q, decide_eq_true (by rw [q])]
                          · rw [decide_eq_false q, decide_eq_false fun u => q (Option.some.inj u)]
                      have hR' := hR (.bl (decide (valV (rows.map kvOf) (Sum.inr rr.2) = some (.str rr.1)))) H5 (allB_at rows _ hri) (Same.refl _)
                      rw [← e5] at hR'
                      exact hR'
                · refine ⟨s4 _ _ fz, D2, rows.map fun r => (decide (valV (rows.map kvOf) (Sum.inr r.2) = some (.str r.1))), rfl, ?_, ?_⟩
                  · have nD : D2 ≠ dp := fun z => by
                      rw [z, fz] at hD2
                      cases hD2
                    rw [List.map_map]
                    exact SqL.of ((upd_ne nD).trans hD4)
                  · rw [List.all_map]
                    refine k' _ fun b o eb => ?_
                    have nb := ndp b o eb
                    exact (upd_ne nb).trans (s4 _ _ (t3 _ _ (t1 _ _ (s1 _ _ eb)) nb))
            · have hall' : ds.all rowD = false := by simpa using hall
              rw [hall'] at k' ⊢
              exact k' _ s1
      | _ => cases hl
    · have hl' : listD 1 3 d = false := by simpa using hl
      rw [hl']
      have e : sortsD d = false := by
        cases d with
        | list ds =>
          have hl2 : (decide ((1 : Int) ≤ (ds.length : Int)) && decide ((ds.length : Int) ≤ 3)) = false := hl'
          have e2 : (decide (1 ≤ ds.length) && decide (ds.length ≤ 3)) = (decide ((1 : Int) ≤ (ds.length : Int)) && decide ((ds.length : Int) ≤ 3)) := by
            congr 1
            · exact decide_eq_decide.mpr (by omega)
            · exact decide_eq_decide.mpr (by omega)
          show ((decide (1 ≤ ds.length) && decide (ds.length ≤ 3)) && _) = false
          rw [e2, hl2, Bool.false_and]
        | _ => rfl
      have k2 := k H (Same.refl _)
      rw [e] at k2
      exact k2
end
end Toy
set_option Elab.async false
set_option linter.all false
set_option maxRecDepth 100000
set_option maxHeartbeats 2000000
namespace Toy
open PySem PySem.Spec PyProof.Rows L2
/-- the promise of «self.f = v» as an exception's __init__ -/
def spExI (C : Addr) (f : Str) : Sp := fun vs H Q _ => ∃ (a : Addr) (v : V), vs = [.ref a, v] ∧ H a = some (exo a C none) ∧ ∀ dx, H dx = none → dx ≠ a → Q .non (upd (upd H dx (exd dx [(f, v)])) a (exo a C (some dx)))
theorem ok_exinit {P : Program} {w : World} {K : PySem.W.Frag} {mg : Str → Option Value} {base : Heap} {st : Stmt} {f q : Str} {fI C : Addr} {fd : FuncData} {p1 p2 p3 p4 : Pos} (hbody : defBody st = [.Assign [.Attribute (.Name "self" p1) f p2] (.Name f p3) p4])
    (S : FnScope ["self", f] ["self", f] (defScope st)) (v0 : (defScope st).names.lookup ("self" : Str) = some .local) (v1 : (defScope st).names.lookup f = some .local) (hf : (f == ("__debug__" : Str)) = false) (hf2 : (f == ("__classdict__" : Str)) = false)
    (F : Fun K "__init__" q st fI fd) (T : OexC K C) (hno : PySem.W.findIn K (.ref C) f = some none) : FnOk P w K mg base CX0 1 fI fd ["self", f] (spExI C f) := by
  refine F.ok S (fun vs H Q E h => ?_) (fun cdv A outer s H vs Q E hr h => ?_)
  · obtain ⟨a, v, rfl, _⟩ := h
    rfl
  · obtain ⟨a, v, rfl, ha, k⟩ := h
    rw [hbody]
    refine ⟨_, pss_one (ps_ost (pv 0 rfl (Or.inl v0)) (pv 1 rfl (Or.inl v1) hf hf2)), ?_⟩
    exact ⟨_, rfl, _, rfl, a, C, rfl, T, hno, .inl ⟨ha, fun dx n ne => k dx n ne⟩⟩
end Toy
set_option Elab.async false
set_option linter.all false
set_option maxRecDepth 100000
set_option maxHeartbeats 4000000
namespace L2
open PySem PySem.Spec PyProof.Rows Toy
/-- C(e, ..) where what its __init__ raises is wished for at the caller's slots -/
def tMakeS (C : Addr) (sp : Sp) (E : L2.St → XK) (t : TA) : TE := fun σ H Q => t σ H fun vs H1 => ∀ x dx, H1 x = none → H1 dx = none → dx ≠ x → sp (.ref x :: vs) (upd (upd H1 dx (.own x)) x (.ins C dx [])) (fun v H2 => v = .non ∧ Q (.ref x) H2) (E σ)
section
variable {X : Cx} {CXq : CXT} {k : Nat} {f C : Addr} {fd : FuncData} {ps : List Str} {sp : Sp} {E : L2.St → XK} {x : Str} {p pos : Pos} {e : Expr} {es : List Expr} {t : TA}
theorem pe_makeS (M : Mk X.K C f) (F : FnOk X.prog X.w X.K X.mg X.base CXq k f fd ps sp) (hr : Room (k + 1) X.A) (hg : Gl X x) (hm : X.mg x = some (.ref C)) (hb : Binds X.K fd ps []) (hx : ∀ σ, PassesAt CXq X σ (E σ)) (ha : PA X (e :: es) t)
    (hdb : (x == ("__debug__" : Str)) = false := by decide) (he : starEach (e :: es) X.env = (false, eval e X.env) :: starEach es X.env := by rfl) (hpl : (backTo pos (starEach es X.env)).any (·.1) = false := by rfl) :
    PE X (.Call (.Name x p) (e :: es) [] pos) (tMakeS C sp E t) := by
  refine ⟨fun pins s σ H Q I h => ?_⟩
  refine wpAny_Call_Name_kw (ld_glob I hg hm ?_ hdb)
  refine PySem.W.callWith_K (h₀ := X.base) I.ok.mod.kin M.kp (thn (ha.run pos pins s σ H _ I h) fun us s1 hh => ?_) he hpl
  obtain ⟨vs, H1, I1, r, q⟩ := hh
  refine ⟨I1.kIn, ?_⟩
  have hq := q (s1.heap.objs.size + 1) s1.heap.objs.size (I1.hok.fresh (Nat.le_succ _)) (I1.hok.fresh (Nat.le_refl _)) (Nat.ne_of_lt (Nat.lt_succ_self _))
  have I2 := Inv.made (C := C) I1
  have r2 : Vals (V.ref (s1.heap.objs.size + 1) :: vs) (Value.ref (s1.heap.objs.size + 1) :: us) := .cons rfl r
  have len2 : (Value.ref (s1.heap.objs.size + 1) :: us ++ []).length = ps.length := by
    rw [List.append_nil, ← r2.length]
    exact F.len _ _ _ _ hq
  have bnd := hb _ (Value.ref (s1.heap.objs.size + 1) :: us) I2.kIn len2
  rw [List.append_nil] at bnd
  show wpAny _ _ (call (.ref C) us) _ _ _
  refine wpAny_call (make_map (f := f) I1.kIn M.makes M.init (beq_iff_eq.mp M.fn) (codeAny_mono (F.run _ X.stack _ _ _ _ _ _ (E σ) (hr.make C us []) (I2.env0.make C us []) bnd r2 hq) fun r s' hq' => ?_))
  match r, hq' with
  | .error e, hq' => exact hx σ pins _ _ e s' I2 hq'
  | .ok .next, hq' => exact hq'.elim
  | .ok .brk, hq' => exact hq'.elim
  | .ok .cont, hq' => exact hq'.elim
  | .ok (.ret u), hq' =>
    obtain ⟨v, H', I3, rv, ev, q3⟩ := I2.after hq'
    subst ev
    exact ⟨rv, V.ref (s1.heap.objs.size + 1), H', I3, rfl, q3⟩
end
end L2
namespace Toy
open PySem PySem.Spec PyProof.Rows L2
/-! ### the depth of data -/
theorem depth_all {n : Nat} : ∀ {ds : List PyData}, (∀ d ∈ ds, PyData.depth d ≤ n) → PyData.depthAll ds ≤ n
  | [], _ => Nat.zero_le _
  | d :: ds, h => by
    show max (PyData.depth d) (PyData.depthAll ds) ≤ n
    have h1 := h d List.mem_cons_self
    have h2 := depth_all fun e he => h e (List.mem_cons_of_mem _ he)
    omega
theorem name_depth {d : PyData} (h : nameD d = true) : PyData.depth d = 0 ∧ noDict d = true := by
  obtain ⟨x, rfl⟩ := name_str h
  exact ⟨rfl, rfl⟩
theorem noDicts_all : ∀ {ds : List PyData}, (∀ d ∈ ds, noDict d = true) → noDicts ds = true
  | [], _ => rfl
  | d :: ds, h => by
    show (noDict d && noDicts ds) = true
    rw [h d List.mem_cons_self, noDicts_all fun e he => h e (List.mem_cons_of_mem _ he)]
    rfl
theorem row_depth {d : PyData} (h : rowD d = true) : PyData.depth d ≤ 1 ∧ noDict d = true := by
  cases d with
  | tuple ds =>
    match ds, h with
    | [a, b], h =>
      have h2 : (nameD a && nameD b) = true := h
      rw [Bool.and_eq_true] at h2
      obtain ⟨x, rfl⟩ := name_str h2.1
      obtain ⟨y, rfl⟩ := name_str h2.2
      exact ⟨by show max 0 (max 0 0) + 1 ≤ 1; decide, rfl⟩
  | _ => cases h
theorem ends_depth {keys : List Str} {d : PyData} (h : endsD keys d = true) : PyData.depth d ≤ 1 ∧ noDict d = true := by
  cases d with
  | tuple ds =>
    have h2 : ((decide (1 ≤ ds.length) && decide (ds.length ≤ 5)) && ((ds.all fun d => nameD d && decide (strO d ∈ keys)) && sortedS (ds.map strO))) = true := h
    rw [Bool.and_eq_true, Bool.and_eq_true (ds.all _), List.all_eq_true] at h2
    have hn : ∀ d ∈ ds, nameD d = true := fun d hd => by
      have q := h2.2.1 d hd
      rw [Bool.and_eq_true] at q
      exact q.1
    have q1 := depth_all (n := 0) fun d hd => Nat.le_of_eq (name_depth (hn d hd)).1
    exact ⟨by show PyData.depthAll ds + 1 ≤ 1; omega, noDicts_all fun d hd => (name_depth (hn d hd)).2⟩
  | _ => cases h
theorem kind_depth {keys : List Str} {d : PyData} (h : kindD keys d = true) : PyData.depth d ≤ 2 ∧ noDict d = true := by
  cases d with
  | tuple ds =>
    match ds, h with
    | [n, e], h =>
      have h2 : (nameD n && endsD keys e) = true := h
      rw [Bool.and_eq_true] at h2
      have q1 := name_depth h2.1
      have q2 := ends_depth h2.2
      refine ⟨?_, noDicts_all fun d hd => ?_⟩
      · show max (PyData.depth n) (max (PyData.depth e) 0) + 1 ≤ 2
        omega
      · have hd2 : d = n ∨ d = e := by simpa using hd
        rcases hd2 with rfl | rfl
        · exact q1.2
        · exact q2.2
  | _ => cases h
/-- a list of plain data of little depth -/
structure Flat (ds : List PyData) : Prop where
  nd : noDicts ds = true
  dep : PyData.depthAll ds ≤ 8
theorem Flat.shape {H : Hp} {xs : List V} {ds : List PyData} (f : Flat ds) (r : DtAll H xs ds) : SeqAt.shaped (.list ds) = true := by
  unfold SeqAt.shaped
  rw [Bool.and_eq_true]
  have d := f.dep
  exact ⟨r.can f.nd, decide_eq_true (by show PyData.depthAll ds + 1 ≤ 64; omega)⟩
theorem sorts_flat {ds : List PyData} (h : sortsD (.list ds) = true) : Flat ds := by
  have h2 : ((decide (1 ≤ ds.length) && decide (ds.length ≤ 3)) && (ds.all rowD && (decide ((ds.map rowOf).map (·.1)).Nodup && mutualB (ds.map rowOf)))) = true := h
  rw [Bool.and_eq_true, Bool.and_eq_true (ds.all _), List.all_eq_true] at h2
  exact ⟨noDicts_all fun d hd => (row_depth (h2.2.1 d hd)).2, depth_all fun d hd => Nat.le_trans (row_depth (h2.2.1 d hd)).1 (by decide)⟩
theorem kinds_flat {keys : List Str} {ds : List PyData} (h : kindsD keys (.list ds) = true) : Flat ds := by
  have h2 : ((decide (1 ≤ ds.length) && decide (ds.length ≤ 4)) && ((ds.all (kindD keys)) && decide (ds.map name0).Nodup)) = true := h
  rw [Bool.and_eq_true, Bool.and_eq_true (ds.all _), List.all_eq_true] at h2
  exact ⟨noDicts_all fun d hd => (kind_depth (h2.2.1 d hd)).2, depth_all fun d hd => Nat.le_trans (kind_depth (h2.2.1 d hd)).1 (by decide)⟩
/-! ### stocks -/
theorem sk_ : ¬ (("sorts" : Str) = "kinds") := by decide +kernel
def sf (l m : Addr) : List (Str × V) := putF "kinds" (.ref m) (putF "sorts" (.ref l) [])
theorem sf_sorts (l m : Addr) : (sf l m).lookup ("sorts" : Str) = some (.ref l) := by
  unfold sf
  rw [lookup_putF, if_neg sk_, lookup_putF, if_pos rfl]
theorem sf_kinds (l m : Addr) : (sf l m).lookup ("kinds" : Str) = some (.ref m) := by
  unfold sf
  rw [lookup_putF, if_pos rfl]
/-- a stock at a with these sorts and kinds -/
structure StkAt (C : Addr) (H : Hp) (a : Addr) (ss ks : List PyData) : Prop where
  ob : ∃ dx l m, H a = some (.ins C dx (sf l m)) ∧ Dt H (.ref l) (.list ss) ∧ Dt H (.ref m) (.list ks)
  f1 : Flat ss
  f2 : Flat ks
theorem StkAt.same {C : Addr} {H H' : Hp} {a : Addr} {ss ks : List PyData} (x : StkAt C H a ss ks) (s : Same H H') : StkAt C H' a ss ks := by
  obtain ⟨⟨dx, l, m, e, h1, h2⟩, f1, f2⟩ := x
  exact ⟨⟨dx, l, m, s _ _ e, h1.same s, h2.same s⟩, f1, f2⟩
def keysD : PyData → List Str
  | .list ds => (ds.map rowOf).map (·.1)
  | _ => []
def listO : PyData → List PyData
  | .list ds => ds
  | _ => []
/-- its two lists are new, and hold what the handed ones held -/
def StkNew (C : Addr) (H H' : Hp) (self : Addr) (sv kv : V) : Prop := ∃ (dx l m a b : Addr) (xs ys : List V), H' self = some (.ins C dx (sf l m)) ∧ H' l = some (.lst xs) ∧ H' m = some (.lst ys) ∧ H l = none ∧ H m = none ∧ sv = .ref a ∧ kv = .ref b ∧ H a = some (.lst xs) ∧ H b = some (.lst ys)
/-- the stock made of these, or NoStock (CN) of the first part that isn't so -/
def spInit (C CN : Addr) : Sp := fun vs H Q E => ∃ (self dx : Addr) (sv kv : V) (sd kd : PyData), vs = [.ref self, sv, kv] ∧ H self = some (.ins C dx []) ∧ Dt H sv sd ∧ Dt H kv kd ∧
  (sortsD sd = false → ∀ H' d, H d = none → Same H H' → H' d = some (.xd [("part", .str "sorts")]) → E (.ref CN) (some d) H') ∧
  (sortsD sd = true → kindsD (keysD sd) kd = false → ∀ H' d, H d = none → Same H H' → H' d = some (.xd [("part", .str "kinds")]) → E (.ref CN) (some d) H') ∧
  (sortsD sd = true → kindsD (keysD sd) kd = true → ∀ H', StkAt C H' self (listO sd) (listO kd) → StkNew C H H' self sv kv → Off self H H' → Q .non H')
structure StkC (K : PySem.W.Frag) (mg : Str → Option Value) (C CN fX : Addr) : Prop where
  cl : Cls K C
  nS : NoAttr K C "sorts"
  nK : NoAttr K C "kinds"
  mgC : mg "Stock" = some (.ref C)
  ca : PySem.W.findIn K (.ref C) "__class__" = some (some (.builtin "object.__class__"))
  cg : PySem.W.specialIn K (.builtin "object.__class__") "__get__" = some (some (.builtin "getset_descriptor.__get__"))
  ct : PySem.W.takesIn K (.builtin "object.__class__") = some true
  cm : PySem.W.mroIn K C (.type "object") = some true
  kC : PySem.W.kitOne K (.ref C) (.ref C) = some true
  ox : OexC K CN
  noP : PySem.W.findIn K (.ref CN) "part" = some none
  ini : PySem.W.findIn K (.ref CN) "__init__" = some (some (.ref fX))
  fun_ : PySem.W.typeIn K (.ref fX) = some (.type "function")
  mgN : mg "NoStock" = some (.ref CN)
section
variable {P : Program} {w : World} {K : PySem.W.Frag} {mg : Str → Option Value} {base : Heap}
theorem scInit : FnScope ["self", "sorts", "kinds"] ["self", "sorts", "kinds"] (defScope sInit) := ⟨rfl, rfl, rfl, by decide +kernel, rfl, by decide +kernel, by decide +kernel⟩
theorem raise_same {H : Hp} {C a d dx : Addr} {fs : List (Str × V)} (na : H a = none) (nd : upd H a (exo a C none) d = none) (ne : d ≠ a) :
    H d = none ∧ Same H (upd (del (upd (upd (upd H a (exo a C none)) d (exd d fs)) a (exo a C (some d))) a) d (.xd fs)) := by
  rw [upd_ne ne] at nd
  refine ⟨nd, fun b o e => ?_⟩
  have n1 := ne_of_none e na
  have n2 := ne_of_none e nd
  rw [upd_ne n2, del_ne n1, upd_ne n1, upd_ne n2, upd_ne n1]
  exact e
theorem ok_init {f fS fK fX C CN : Addr} {fd fdS fdK fdX : FuncData} (F : Fun K "__init__" "Stock.__init__" sInit f fd) (M : Mods mg) (T : StkC K mg C CN fX)
    (GS : FnOk P w K mg base CX0 2 fS fdS ["sorts"] spSorts) (kS : PySem.W.keepIn K (.ref fS) = true) (bS : Binds K fdS ["sorts"] []) (gS : mg "_are_sorts" = some (.ref fS))
    (GK : FnOk P w K mg base CX0 4 fK fdK ["kinds", "partners"] spKinds) (kK : PySem.W.keepIn K (.ref fK) = true) (bK : Binds K fdK ["kinds", "partners"] []) (gK : mg "_are_kinds" = some (.ref fK))
    (GX : FnOk P w K mg base CX0 1 fX fdX ["self", "part"] (spExI CN "part")) (bX : Binds K fdX ["self", "part"] []) :
    FnOk P w K mg base (L2.CX P w) 5 f fd ["self", "sorts", "kinds"] (spInit C CN) := by
  refine F.okX scInit (fun vs H Q E h => ?_) (fun cdv A outer s H vs Q E hr h => ?_)
  · obtain ⟨self, dx, sv, kv, sd, kd, rfl, _⟩ := h
    rfl
  · obtain ⟨self, dx, sv, kv, sd, kd, rfl, hself, hs, hk, no1, no2, yes⟩ := h
    have hr2 : Room 2 _ := hr.mono (by decide)
    refine ⟨_, pss_cons (ps_if (pt_not (pt_val (pe_call GS hr2 (by rfl) gS kS bS .nil pass0 (pa_cons (pv 1) pa_nil)))) (pss_one (ps_raise rfl (takes_of rfl rfl rfl rfl) (pmk_oex T.ox T.ini T.fun_ GX hr2 bX .nil pass0 (by rfl) T.mgN (pa_cons pe_str pa_nil)))) pss_nil)
      (pss_cons (ps_if (pt_not (pt_val (pe_call GK hr (by rfl) gK kK bK .nil pass0 (pa_cons (pv 2) (pa_cons (pe_callTy (call_dictP rfl) (by rfl) M.dict_ (by decide +kernel) (pa_cons (pv 1) pa_nil)) pa_nil))))) (pss_one (ps_raise rfl (takes_of rfl rfl rfl rfl) (pmk_oex T.ox T.ini T.fun_ GX hr2 bX .nil pass0 (by rfl) T.mgN (pa_cons pe_str pa_nil)))) pss_nil)
      (pss_cons (ps_fld (pv 0) (pe_callTy call_list_of (by rfl) M.lst_ (by decide +kernel) (pa_cons (pv 1) pa_nil)) rfl)
      (pss_one (ps_fld (pv 0) (pe_callTy call_list_of (by rfl) M.lst_ (by decide +kernel) (pa_cons (pv 2) pa_nil)) rfl)))), ?_⟩
    refine ⟨_, rfl, sv, sd, rfl, hs, fun H1 s1 => ⟨_, rfl, ?_⟩⟩
    by_cases h1 : sortsD sd = true
    · rw [h1]
      have hs1 := hs.same s1
      cases hs1 with
      | @lst a xs ds e l r =>
        have h1' : ((decide (1 ≤ ds.length) && decide (ds.length ≤ 3)) && (ds.all rowD && (decide ((ds.map rowOf).map (·.1)).Nodup && mutualB (ds.map rowOf)))) = true := h1
        rw [Bool.and_eq_true, Bool.and_eq_true (ds.all _), Bool.and_eq_true (decide ((ds.map rowOf).map (·.1)).Nodup), List.all_eq_true, decide_eq_true_eq] at h1'
        obtain ⟨ps, exs, pr⟩ := rows_of (K := K) r h1'.2.1
        subst exs
        refine ⟨_, rfl, _, rfl, a, ps, _, rfl, SqL.of e, pr, fun dp hdp => ?_⟩
        rw [dict_is h1'.2.2.1]
        have t1 := same_new (o := .dK ((ds.map rowOf).map kvOf)) hdp
        refine ⟨kv, kd, dp, ds.map rowOf, rfl, (hk.same s1).same t1, upd_same, fun H2 s2 => ⟨_, rfl, ?_⟩⟩
        have s12 := (s1.trans t1).trans s2
        by_cases h2 : kindsD (keysD (.list ds)) kd = true
        · have h2' : kindsD ((ds.map rowOf).map (·.1)) kd = true := h2
          rw [h2']
          have hk2 := hk.same s12
          cases hk2 with
          | @lst b ys es eb lb rb =>
            have ea2 := (t1.trans s2) _ _ e
            refine ⟨_, rfl, a, _, rfl, .inl (SqL.of ea2), fun l1 n1 => ?_⟩
            have t3 := same_new (o := .lst (ps.map V.ref)) n1
            have hself3 := t3 _ _ (s12 _ _ hself)
            have nsl : self ≠ l1 := ne_of_none (s12 _ _ hself) n1
            have hl1 : upd H2 l1 (.lst (ps.map V.ref)) l1 = some (.lst (ps.map V.ref)) := upd_same
            refine ⟨_, rfl, self, C, dx, [], rfl, hself3, T.cl, T.nS, (by show 0 < 1000; decide), ?_⟩
            generalize upd H2 l1 (.lst (ps.map V.ref)) = H3 at t3 hself3 hl1 ⊢
            have s13 := s12.trans t3
            have o4 : Off self H3 (upd H3 self (.ins C dx (putF "sorts" (.ref l1) []))) := Off.upd
            have nbs : b ≠ self := ne_of (t3 _ _ eb) hself3 (by intro z; cases z)
            refine ⟨_, rfl, b, _, rfl, .inl (SqL.of (o4 _ _ (t3 _ _ eb) nbs)), fun l2 n2 => ?_⟩
            have hself4 : upd H3 self (.ins C dx (putF "sorts" (.ref l1) [])) self = some (.ins C dx (putF "sorts" (.ref l1) [])) := upd_same
            have t5 := same_new (o := .lst ys) n2
            have hl2 : upd (upd H3 self (.ins C dx (putF "sorts" (.ref l1) []))) l2 (.lst ys) l2 = some (.lst ys) := upd_same
            refine ⟨_, rfl, self, C, dx, _, rfl, t5 _ _ hself4, T.cl, T.nK, (by show 1 < 1000; decide), ?_⟩
            have nl2 : l2 ≠ self := (ne_of_none hself4 n2).symm
            generalize upd H3 self (.ins C dx (putF "sorts" (.ref l1) [])) = H4 at o4 n2 hself4 t5 hl2 ⊢
            generalize upd H4 l2 (.lst ys) = H5 at t5 hl2 ⊢
            have o6 : Off self H5 (upd H5 self (.ins C dx (putF "kinds" (.ref l2) (putF "sorts" (.ref l1) [])))) := Off.upd
            have oAll : Off self H3 (upd H5 self (.ins C dx (putF "kinds" (.ref l2) (putF "sorts" (.ref l1) [])))) := (o4.trans (Same.off t5)).trans o6
            have oH : Off self H (upd H5 self (.ins C dx (putF "kinds" (.ref l2) (putF "sorts" (.ref l1) [])))) := (Same.off s13).trans oAll
            have offD : ∀ {G G' : Hp} {u : V} {dd : PyData}, Off self G G' → G self = some (.ins C dx []) → Dt G u dd → Dt G' u dd := by
              intro G G' u dd og gs hd
              have key : ∃ Hm : Hp, Same Hm G' ∧ Dt Hm u dd := by
                refine ⟨fun q => if q = self then none else G q, fun q o e => ?_, ?_⟩
                · by_cases hq : q = self
                  · simp [hq] at e
                  · simp only [if_neg hq] at e
                    exact og q o e hq
                · have rec1 : (∀ {u : V} {dd : PyData}, Dt G u dd → Dt (fun q => if q = self then none else G q) u dd) := by
                    intro u dd hd
                    refine Dt.rec (motive_1 := fun u dd _ => Dt (fun q => if q = self then none else G q) u dd) (motive_2 := fun us ds _ => DtAll (fun q => if q = self then none else G q) us ds) .non .bl .int .str ?_ ?_ ?_ .nil (fun _ _ h1 h2 => .cons h1 h2) hd
                    · intro a xs ds e l _ ih
                      refine .lst ?_ l ih
                      have n : a ≠ self := ne_of e gs (by intro z; cases z)
                      simp only [if_neg n]
                      exact e
                    · intro a xs ds e l _ ih
                      refine .tup ?_ l ih
                      have n : a ≠ self := ne_of e gs (by intro z; cases z)
                      simp only [if_neg n]
                      exact e
                    · intro a e
                      refine .dct ?_
                      have n : a ≠ self := ne_of e gs (by intro z; cases z)
                      simp only [if_neg n]
                      exact e
                  exact rec1 hd
              obtain ⟨Hm, sm, dm⟩ := key
              exact dm.same sm
            have dS : Dt H3 (.ref l1) (.list ds) := .lst hl1 (by rw [List.length_map] at l ⊢; exact l) ((r.same (t1.trans s2)).same t3)
            have dK : Dt H3 (.ref b) (.list es) := hk.same s13
            have rb6 : DtAll (upd H5 self (.ins C dx (putF "kinds" (.ref l2) (putF "sorts" (.ref l1) [])))) ys es := by
              have q := offD oAll hself3 dK
              cases q with
              | @lst _ ys2 _ e2 _ r2 =>
                have e3 := oAll _ _ (t3 _ _ eb) nbs
                rw [e3] at e2
                cases e2
                exact r2
            have hH0 : H a = some (.lst (ps.map V.ref)) := by
              cases hs with
              | lst e0 _ _ =>
                have q := s1 _ _ e0
                rw [e] at q
                cases q
                exact e0
            have hH1 : H b = some (.lst ys) := by
              cases hk with
              | lst e0 _ _ =>
                have q := s12 _ _ e0
                rw [eb] at q
                cases q
                exact e0
            have nl2H : H l2 = none := by
              cases z : H l2 with
              | none => rfl
              | some o =>
                have q := ((Same.off s13).trans o4) _ _ z nl2
                rw [n2] at q
                cases q
            exact yes h1 h2 _ ⟨⟨dx, l1, l2, upd_same, offD oAll hself3 dS, .lst (o6 _ _ hl2 nl2) lb rb6⟩, sorts_flat h1, kinds_flat h2⟩ ⟨dx, l1, l2, a, b, _, _, upd_same, oAll _ _ hl1 nsl.symm, o6 _ _ hl2 nl2, s12.free n1, nl2H, rfl, rfl, hH0, hH1⟩ oH
          | _ => cases h2
        · have h2' : kindsD (keysD (.list ds)) kd = false := by simpa using h2
          have h2'' : kindsD ((ds.map rowOf).map (·.1)) kd = false := h2'
          rw [h2'']
          refine ⟨by show 1 ≤ 1000; decide, fun a2 na => ⟨a2, _, rfl, upd_same, fun d nd ne => ⟨rfl, d, _, upd_same, (by rw [upd_ne ne, upd_same]), ?_, ?_⟩⟩⟩
          · exact (raise_same (dx := d) (fs := []) na nd ne).1
          · obtain ⟨q1, q2⟩ := raise_same (dx := d) (fs := [("part", .str "kinds")]) na nd ne
            exact no2 h1 h2' _ d (s12.free q1) (s12.trans q2) upd_same
      | _ => cases h1
    · have h1' : sortsD sd = false := by simpa using h1
      rw [h1']
      refine ⟨by show 1 ≤ 1000; decide, fun a2 na => ⟨a2, _, rfl, upd_same, fun d nd ne => ⟨rfl, d, _, upd_same, (by rw [upd_ne ne, upd_same]), ?_, ?_⟩⟩⟩
      · exact (raise_same (dx := d) (fs := []) na nd ne).1
      · obtain ⟨q1, q2⟩ := raise_same (dx := d) (fs := [("part", .str "sorts")]) na nd ne
        exact no1 h1' _ d (s1.free q1) (s1.trans q2) upd_same
end
end Toy
set_option Elab.async false
set_option linter.all false
set_option maxRecDepth 100000
set_option maxHeartbeats 4000000
namespace Toy
open PySem PySem.Spec PyProof.Rows L2
theorem pe_gref {X : Cx} {x : Str} {a : Addr} {pos : Pos} (hg : Gl X x) (hm : X.mg x = some (.ref a)) (hd : (x == ("__debug__" : Str)) = false := by decide) : PE X (.Name x pos) (tC (.ref a)) := pe_glob (v := .ref a) hg hm rfl hd
/-- two stocks, or a stock and another thing -/
def spSEq (K : PySem.W.Frag) (C : Addr) : Sp := fun vs H Q _ => ∃ (a : Addr) (y : V) (ss ks : List PyData), vs = [.ref a, y] ∧ StkAt C H a ss ks ∧
  ((∃ (b : Addr) (ss' ks' : List PyData), y = .ref b ∧ StkAt C H b ss' ks' ∧ Q (.bl (PyData.eqv (.list ss) (.list ss') && PyData.eqv (.list ks) (.list ks'))) H) ∨
   ∃ t, TyX K H y t ∧ PySem.W.kitOne K t (.ref C) = some false ∧ Q (.bl false) H)
section
variable {P : Program} {w : World} {K : PySem.W.Frag} {mg : Str → Option Value} {base : Heap}
theorem dt_list {H : Hp} {l : Addr} {ds : List PyData} (h : Dt H (.ref l) (.list ds)) : ∃ xs, H l = some (.lst xs) ∧ xs.length ≤ 1000 ∧ DtAll H xs ds := by
  cases h with
  | lst e l r => exact ⟨_, e, l, r⟩
theorem stk_ty {C CN fX : Addr} (T : StkC K mg C CN fX) {H : Hp} {b : Addr} {ss ks : List PyData} (h : StkAt C H b ss ks) : TyX K H (.ref b) (.ref C) := by
  obtain ⟨⟨dx, l, m, e, _⟩, _, _⟩ := h
  exact .base (.ins e T.cl T.ca T.cg T.ct T.cm)
theorem scEq : FnScope ["self", "other"] ["self", "other"] (defScope sEq) := ⟨rfl, rfl, rfl, by decide +kernel, rfl, by decide +kernel, by decide +kernel⟩
theorem ok_eq {f fX C CN : Addr} {fd : FuncData} (F : Fun K "__eq__" "Stock.__eq__" sEq f fd) (M : Mods mg) (T : StkC K mg C CN fX) : FnOk P w K mg base CX0 1 f fd ["self", "other"] (spSEq K C) := by
  refine F.ok scEq (fun vs H Q E h => ?_) (fun cdv A outer s H vs Q E hr h => ?_)
  · obtain ⟨a, y, ss, ks, rfl, _⟩ := h
    rfl
  · obtain ⟨a, y, ss, ks, rfl, sa, k⟩ := h
    refine ⟨_, pss_one (ps_ret (pe_and (pe_callB call_isi (by rfl) M.isi (by decide +kernel) (pa_cons (pv 1) (pa_cons (pe_gref (by rfl) T.mgC) pa_nil)))
      (pe_and (pe_cmpR (op_eqD hr.units) (pe_fld (pv 0) rfl) (pe_fld (pv 1) rfl) (nomark _)) (pe_one (pe_cmpR (op_eqD hr.units) (pe_fld (pv 0) rfl) (pe_fld (pv 1) rfl) (nomark _)))))), ?_⟩
    rcases k with ⟨b, ss', ks', rfl, sb, k⟩ | ⟨t, ty, kt, k⟩
    · refine ⟨_, rfl, _, _, _, _, true, rfl, .own C, stk_ty T sb, T.kC, _, rfl, ?_⟩
      obtain ⟨⟨dx, l, m, e, h1, h2⟩, f1, f2⟩ := sa
      obtain ⟨⟨dx', l', m', e', h1', h2'⟩, f1', f2'⟩ := sb
      obtain ⟨xs, el, ll, rl⟩ := dt_list h1
      obtain ⟨ys, em, lm, rm⟩ := dt_list h2
      obtain ⟨xs', el', ll', rl'⟩ := dt_list h1'
      obtain ⟨ys', em', lm', rm'⟩ := dt_list h2'
      refine ⟨_, rfl, a, C, dx, _, _, rfl, e, T.cl, T.nS, sf_sorts l m, _, rfl, b, C, dx', _, _, rfl, e', T.cl, T.nS, sf_sorts l' m', .list ss, .list ss', .lst (SqL.of el) (rl.dp f1.nd), .lst (SqL.of el') (rl'.dp f1'.nd), f1.shape rl, f1'.shape rl', _, rfl, ?_⟩
      by_cases q : PyData.eqv (.list ss) (.list ss') = true
      · rw [q] at k ⊢
        rw [Bool.true_and] at k
        exact ⟨_, rfl, a, C, dx, _, _, rfl, e, T.cl, T.nK, sf_kinds l m, _, rfl, b, C, dx', _, _, rfl, e', T.cl, T.nK, sf_kinds l' m', .list ks, .list ks', .lst (SqL.of em) (rm.dp f2.nd), .lst (SqL.of em') (rm'.dp f2'.nd), f2.shape rm, f2'.shape rm', k⟩
      · have q' : PyData.eqv (.list ss) (.list ss') = false := by simpa using q
        rw [q'] at k ⊢
        exact k
    · exact ⟨_, rfl, _, _, _, _, false, rfl, .own C, ty, kt, _, rfl, k⟩
end
end Toy
set_option Elab.async false
set_option linter.all false
set_option maxRecDepth 100000
set_option maxHeartbeats 4000000
namespace Toy
open PySem PySem.Spec PyProof.Rows L2
/-! ### heaps without the source -/
theorem off_same {p : Addr} {H H' : Hp} (h : Off p H H') : Same (del H p) (del H' p) := fun b o e => by
  by_cases q : b = p
  · rw [q, del_same] at e
    cases e
  · rw [del_ne q] at e ⊢
    exact h b o e q
theorem del_sub {p : Addr} {H : Hp} : Same (del H p) H := fun b o e => by
  by_cases q : b = p
  · rw [q, del_same] at e
    cases e
  · rw [del_ne q] at e
    exact e
theorem SrcAt.mono {H : Hp} {p : Addr} {n m : Nat} (h : SrcAt H p n) (l : n ≤ m) : SrcAt H p m := by
  obtain ⟨a, b, c, e, b0, b1, c0, c1⟩ := h
  exact ⟨a, b, c, e, b0, b1, c0, by omega⟩
theorem SrcAt.same {H H' : Hp} {p : Addr} {n : Nat} (h : SrcAt H p n) (s : Same H H') : SrcAt H' p n := by
  obtain ⟨x, y, z, e, r⟩ := h
  exact ⟨x, y, z, s _ _ e, r⟩
theorem SrcAt.ne {H : Hp} {p q : Addr} {n : Nat} (h : SrcAt H p n) (n : H q = none) : q ≠ p := by
  obtain ⟨_, _, _, e, _⟩ := h
  exact (ne_of_none e n).symm
theorem SrcAt.some {H : Hp} {p : Addr} {n : Nat} (h : SrcAt H p n) : ∃ o, H p = some o := by
  obtain ⟨_, _, _, e, _⟩ := h
  exact ⟨_, e⟩
/-- what is new behind a draw was new ahead of it -/
theorem Off.free {p q : Addr} {H H' : Hp} {n : Nat} (h : Off p H H') (hp : SrcAt H' p n) (e : H' q = none) : H q = none := by
  have nq := hp.ne e
  cases z : H q with
  | none => rfl
  | some o =>
    rw [h q o z nq] at e
    cases e
/-! ### names -/
abbrev menuN : List Str := ["a", "ab", "leg", "b", "sort", "abc", "join", "zzzzzzzz", "ba", "kind"]
def noth : Str := "nothing"
def namesB (xs : List Str) : Bool := decide xs.Nodup && xs.all fun x => nameS x && decide (x ≠ noth)
structure Names (xs : List Str) : Prop where
  nd : xs.Nodup
  nm : ∀ x ∈ xs, nameS x = true ∧ x ≠ noth
theorem names_of {xs : List Str} (h : namesB xs = true) : Names xs := by
  unfold namesB at h
  rw [Bool.and_eq_true, decide_eq_true_eq, List.all_eq_true] at h
  refine ⟨h.1, fun x hx => ?_⟩
  have q := h.2 x hx
  rw [Bool.and_eq_true, decide_eq_true_eq] at q
  exact q
theorem menu_names : ∀ a, a < 10 → ∀ m, m ≤ 6 → namesB (((menuN.drop a) ++ (menuN.take a)).take m) = true := by decide +kernel
def lastsC : List Nat := [109, 107, 120, 113, 119, 116]
def lettersB (w : Str) : Bool := w.cps.toList.all letter
theorem app_cps (a b : Str) : (a ++ b).cps = a.cps ++ b.cps := rfl
theorem app_len (a b : Str) : (a ++ b).length = a.length + b.length := by
  show (a.cps ++ b.cps).size = a.cps.size + b.cps.size
  exact Array.size_append
theorem letters_app {a b : Str} (ha : lettersB a = true) (hb : lettersB b = true) : lettersB (a ++ b) = true := by
  unfold lettersB at *
  rw [app_cps, Array.toList_append, List.all_append, ha, hb]
  rfl
/-- a word and one of the last signs -/
def Made (x : Str) (c : Nat) : Prop := ∃ w : Str, x = w ++ ⟨#[c]⟩ ∧ w.length ≤ 7 ∧ lettersB w = true
theorem made_name {x : Str} {c : Nat} (h : Made x c) (hc : letter c = true) (hg : c ≠ 103) : nameS x = true ∧ x ≠ noth := by
  obtain ⟨w, rfl, hl, hw⟩ := h
  have hlen : (w ++ (⟨#[c]⟩ : Str)).length = w.length + 1 := app_len _ _
  refine ⟨?_, fun e => ?_⟩
  · unfold nameS
    rw [hlen, decide_eq_true (by omega : 1 ≤ w.length + 1), decide_eq_true (by omega : w.length + 1 ≤ 8)]
    have hb : lettersB (⟨#[c]⟩ : Str) = true := by
      show (([c] : List Nat).all letter) = true
      rw [List.all_cons, hc]
      rfl
    exact letters_app hw hb
  · have e2 := congrArg (fun s : Str => s.cps.toList.getLast?) e
    have e3 : (w ++ (⟨#[c]⟩ : Str)).cps.toList.getLast? = some c := by
      rw [app_cps, Array.toList_append]
      exact List.getLast?_concat
    have e4 : noth.cps.toList.getLast? = some 103 := by decide +kernel
    have e5 : some c = some 103 := by
      rw [← e3, ← e4]
      exact e2
    exact hg (Option.some.inj e5)
theorem made_nodup : ∀ {xs : List Str} {cs : List Nat}, Paired Made xs cs → cs.Nodup → xs.Nodup
  | _, _, .nil, _ => List.nodup_nil
  | _, _, .cons (a := x) (b := c) h t, n => by
    rw [List.nodup_cons] at n ⊢
    refine ⟨fun hx => ?_, made_nodup t n.2⟩
    have key : ∀ {xs : List Str} {cs : List Nat}, Paired Made xs cs → x ∈ xs → c ∈ cs := by
      intro xs cs r
      induction r with
      | nil => exact fun z => nomatch z
      | @cons y d ys ds hy _ ih =>
        intro z
        rcases List.mem_cons.mp z with e | z
        · obtain ⟨w, e1, _⟩ := h
          obtain ⟨w2, e2, _⟩ := hy
          have q : (w ++ (⟨#[c]⟩ : Str)).cps.toList.getLast? = (w2 ++ (⟨#[d]⟩ : Str)).cps.toList.getLast? := by rw [← e1, ← e2, e]
          rw [app_cps, app_cps, Array.toList_append, Array.toList_append] at q
          have q2 : some c = some d := by
            have l1 : (w.cps.toList ++ [c]).getLast? = some c := List.getLast?_concat
            have l2 : (w2.cps.toList ++ [d]).getLast? = some d := List.getLast?_concat
            rw [← l1, ← l2]
            exact q
          rw [Option.some.inj q2]
          exact List.mem_cons_self
        · exact List.mem_cons_of_mem _ (ih z)
    exact n.1 (key t hx)
theorem made_names {xs : List Str} {m : Nat} (h : Paired Made xs (lastsC.take m)) : Names xs := by
  have hnd : (lastsC.take m).Nodup := List.Nodup.sublist (List.take_sublist _ _) (by decide)
  refine ⟨made_nodup h hnd, fun x hx => ?_⟩
  have key : ∀ {xs : List Str} {cs : List Nat}, Paired Made xs cs → (∀ c ∈ cs, letter c = true ∧ c ≠ 103) → ∀ x ∈ xs, nameS x = true ∧ x ≠ noth := by
    intro xs cs r
    induction r with
    | nil => exact fun _ x z => nomatch z
    | @cons y d ys ds hy _ ih =>
      intro hc x z
      rcases List.mem_cons.mp z with e | z
      · rw [e]
        have q := hc d List.mem_cons_self
        exact made_name hy q.1 q.2
      · exact ih (fun c hcm => hc c (List.mem_cons_of_mem _ hcm)) x z
  refine key h (fun c hc => ?_) x hx
  have hm : c ∈ lastsC := List.mem_of_mem_take hc
  have all : ∀ c ∈ lastsC, letter c = true ∧ c ≠ 103 := by decide +kernel
  exact all c hm
theorem cut_from (xs : List V) (k : Nat) (h : k ≤ xs.length) : cutV xs (some (k : Int)) none = xs.drop k := by
  unfold cutV
  rw [HT.sIx_nat, HT.sIx_none, Nat.min_eq_left h]
  exact List.take_of_length_le (by rw [List.length_drop]; exact Nat.le_refl _)
theorem cut_to (xs : List V) (k : Nat) : cutV xs none (some (k : Int)) = xs.take k := by
  unfold cutV
  rw [HT.sIx_nat, HT.sIx_none, Nat.sub_zero, List.drop_zero]
  by_cases h : k ≤ xs.length
  · rw [Nat.min_eq_left h]
  · rw [Nat.min_eq_right (by omega), List.take_of_length_le (Nat.le_refl _), List.take_of_length_le (by omega)]
theorem cutS_to (z : Str) (k : Nat) : (cutS z none (some (k : Int))).cps.toList = z.cps.toList.take k := by
  unfold cutS
  rw [HT.sIx_nat, HT.sIx_none, Nat.sub_zero, List.drop_zero]
  show z.cps.toList.take (min k z.length) = _
  have hz : z.length = z.cps.toList.length := by first | rfl | exact Array.length_toList.symm
  by_cases h : k ≤ z.length
  · rw [Nat.min_eq_left h]
  · rw [Nat.min_eq_right (by omega), List.take_of_length_le (by omega), List.take_of_length_le (by omega)]
def spNames : Sp := fun vs H Q _ => ∃ (p : Addr) (m n : Nat), vs = [.ref p, .int (m : Int)] ∧ SrcAt H p n ∧ n ≤ 10000 ∧ m ≤ 6 ∧
  ∀ (l : Addr) (xs : List Str) (H' : Hp), xs.length = m → Names xs → H l = none → H' l = some (.lst (xs.map V.str)) → SrcAt H' p (n + 100) → Off p H H' → Q (.ref l) H'
section
variable {P : Program} {w : World} {K : PySem.W.Frag} {mg : Str → Option Value} {base : Heap}
abbrev nmN : List Str := ["_law_source", "_law_many", "_law_some", "_law_at", "_law_found", "_law_last", "_law_word", "_law_k"]
theorem scNames : FnScope nmN ["_law_source", "_law_many"] (defScope sNames) := ⟨rfl, rfl, rfl, by decide +kernel, rfl, by decide +kernel, by decide +kernel⟩
theorem ok_names {f fN fO : Addr} {fd fdN fdO : FuncData} (F : Fun K "_law_names" "_law_names" sNames f fd)
    (GN : FnOk P w K mg base CX0 1 fN fdN ["_law_source", "_law_many"] spNext) (kN : PySem.W.keepIn K (.ref fN) = true) (bN : Binds K fdN ["_law_source", "_law_many"] []) (gN : mg "_law_next" = some (.ref fN))
    (GO : FnOk P w K mg base CX0 2 fO fdO ["_law_source", "_law_some"] spOne) (kO : PySem.W.keepIn K (.ref fO) = true) (bO : Binds K fdO ["_law_source", "_law_some"] []) (gO : mg "_law_one" = some (.ref fO)) (mR : mg "range" = none) :
    FnOk P w K mg base CX0 3 f fd ["_law_source", "_law_many"] spNames := by
  refine F.ok scNames (fun vs H Q E h => ?_) (fun cdv A outer s H vs Q E hr h => ?_)
  · obtain ⟨p, m, n, rfl, _⟩ := h
    rfl
  · obtain ⟨p, m, n, rfl, hp, hn, hm, k⟩ := h
    have hr1 : Room 1 (A.deeper (envOfC "_law_names" (defScope sNames) s.heap.objs.size f cdv)) := hr.mono (by decide)
    refine ⟨_, pss_cons (ps_set (i := 2) scNames.nd rfl (Or.inl rfl) (pe_lst (pa_cons pe_str (pa_cons pe_str (pa_cons pe_str (pa_cons pe_str (pa_cons pe_str (pa_cons pe_str (pa_cons pe_str (pa_cons pe_str (pa_cons pe_str (pa_cons pe_str pa_nil))))))))))))
      (pss_cons (ps_set (i := 3) scNames.nd rfl (Or.inl rfl) (pe_call GN hr1 (by rfl) gN kN bN .nil pass0 (pa_cons (pv 0) (pa_cons pe_int pa_nil))))
      (pss_cons (ps_if (pt_cmpR op_eq (pe_call GN hr1 (by rfl) gN kN bN .nil pass0 (pa_cons (pv 0) (pa_cons pe_int pa_nil))) pe_int (nomark _))
        (pss_one (ps_ret (pe_slice sl_list (pe_op op_cat (pe_slice sl_list (pv 2) (po_some (pv 3)) po_none) (pe_slice sl_list (pv 2) po_none (po_some (pv 3)))) po_none (po_some (pv 1))))) pss_nil)
      (pss_cons (ps_set (i := 4) scNames.nd rfl (Or.inl rfl) (pe_lst pa_nil))
      (pss_cons (ps_for PassesOwn.never rfl (pi_str (pe_slice sl_str pe_str po_none (po_some (pv 1)))) (pg_name (i := 5) scNames.nd rfl (Or.inl rfl))
        (pss_cons (ps_set (i := 6) scNames.nd rfl (Or.inl rfl) pe_str)
        (pss_cons (ps_for PassesOwn.never rfl (pi_range1 (by rfl) mR (pa_cons (pe_call GO hr (by rfl) gO kO bO .nil pass0 (pa_cons (pv 0) (pa_cons (pe_lst (pa_cons pe_int (pa_cons pe_int (pa_cons (pe_call GN hr1 (by rfl) gN kN bN .nil pass0 (pa_cons (pv 0) (pa_cons pe_int pa_nil))) pa_nil)))) pa_nil))) pa_nil)) (pg_name (i := 7) scNames.nd rfl (Or.inl rfl))
          (pss_one (ps_set (i := 6) scNames.nd rfl (Or.inl rfl) (pe_op op_add_str (pv 6) (pe_item_str pe_str (pe_call GN hr1 (by rfl) gN kN bN .nil pass0 (pa_cons (pv 0) (pa_cons pe_int pa_nil))) (fun _ _ => rfl))))))
        (pss_one (ps_expr (pe_bm PySem.F.plainAttrs_list PySem.F.slot_list_append PySem.F.type_list_append mt_append (pv 4) (pa_cons (pe_op op_add_str (pv 6) (pv 5)) pa_nil)))))))
      (pss_one (ps_ret (pv 4))))))), ?_⟩
    refine ⟨by show 10 ≤ sizeLine; decide, fun q nq => ?_⟩
    have s0 := same_new (o := .lst (menuN.map V.str)) nq
    have hq : upd H q (.lst (menuN.map V.str)) q = some (.lst (menuN.map V.str)) := upd_same
    have nqp := hp.ne nq
    have hp0 := hp.same s0
    refine ⟨_, rfl, p, 10, n, rfl, hp0, by decide, by decide, by omega, fun r H1 r0 r1 hp1 o1 => ?_⟩
    have hq1 := o1 _ _ hq nqp
    have oA : Off p H H1 := (Same.off s0).trans o1
    generalize upd H q (.lst (menuN.map V.str)) = H0 at s0 hq hp0 o1
    clear s0 hq hp0 o1
    obtain ⟨a, rfl⟩ := Int.eq_ofNat_of_zero_le r0
    refine ⟨_, rfl, p, 2, n + 1, rfl, hp1, by decide, by decide, by omega, fun r2 H2 r20 r21 hp2 o2 => ?_⟩
    have hq2 := o2 _ _ hq1 nqp
    have oB := oA.trans o2
    refine ⟨rfl, _, rfl, ite2 (fun h2 => ?_) (fun h2 => ?_)⟩
    · refine ⟨_, rfl, _, rfl, (a : Int), rfl, q, _, rfl, SqL.of hq2, fun u1 m1 => ?_⟩
      have t1 := same_new (o := .lst (cutV (menuN.map V.str) (some (a : Int)) none)) m1
      refine ⟨_, rfl, _, rfl, (a : Int), rfl, q, _, rfl, SqL.of (t1 _ _ hq2), fun u2 m2 => ?_⟩
      have t2 := same_new (o := .lst (cutV (menuN.map V.str) none (some (a : Int)))) m2
      refine ⟨u1, u2, _, _, rfl, rfl, t2 _ _ upd_same, upd_same, ?_, fun u3 m3 => ?_⟩
      · exact Nat.le_trans (Nat.add_le_add (cutV_length _ _ _) (cutV_length _ _ _)) (by show 20 ≤ sizeLine; decide)
      · have t3 := same_new (o := .lst (cutV (menuN.map V.str) (some (a : Int)) none ++ cutV (menuN.map V.str) none (some (a : Int)))) m3
        refine ⟨_, rfl, (m : Int), rfl, u3, _, rfl, SqL.of upd_same, fun u4 m4 => ?_⟩
        have t4 := same_new (o := .lst (cutV (cutV (menuN.map V.str) (some (a : Int)) none ++ cutV (menuN.map V.str) none (some (a : Int))) none (some (m : Int)))) m4
        have ha : a < 10 := by omega
        have e1 : cutV (cutV (menuN.map V.str) (some (a : Int)) none ++ cutV (menuN.map V.str) none (some (a : Int))) none (some (m : Int)) = (((menuN.drop a) ++ (menuN.take a)).take m).map V.str := by
          rw [cut_from _ _ (by rw [List.length_map]; exact Nat.le_of_lt ha), cut_to, cut_to, ← List.map_drop, ← List.map_take, ← List.map_append, ← List.map_take]
        have sAll := ((t1.trans t2).trans t3).trans t4
        have oC := oB.trans (Same.off sAll)
        refine k u4 _ _ ?_ (names_of (menu_names a ha m hm)) (oB.free hp2 (((t1.trans t2).trans t3).free m4)) (by rw [upd_same, e1]) ((hp2.same sAll).mono (by omega)) oC
        rw [List.length_take, List.length_append, List.length_drop, List.length_take]
        show min m ((10 - a) + min a 10) = m
        omega
    · refine ⟨Nat.zero_le _, fun l nl => ?_⟩
      have t1 := same_new (o := .lst []) nl
      have hl1 : upd H2 l (.lst []) l = some (.lst []) := upd_same
      have hp3 := hp2.same t1
      have nlp := hp2.ne nl
      have l0 : H l = none := oB.free hp2 nl
      generalize upd H2 l (.lst []) = H3 at t1 hl1 hp3 ⊢
      refine ⟨_, rfl, (m : Int), rfl, "mkxqwt", rfl, by decide +kernel, _, rfl, ?_⟩
      have oC := oB.trans (Same.off t1)
      have hz := cutS_to "mkxqwt" m
      have hzl : (cutS "mkxqwt" none (some (m : Int))).cps.size = m := by
        rw [← Array.length_toList, hz, List.length_take]
        show min m 6 = m
        omega
      refine for_it (walk_str (z := cutS "mkxqwt" none (some (m : Int)))) (fun i σ H' => ∃ y5 y6 y7 xs, σ = [some (.ref p), some (.int (m : Int)), some (.ref q), some (.int (a : Int)), some (.ref l), y5, y6, y7] ∧ Off p H H' ∧ SrcAt H' p (n + 2 + 10 * i) ∧ H' l = some (.lst (xs.map V.str)) ∧ Paired Made xs (lastsC.take i))
        ⟨none, none, none, [], rfl, oC, hp3, hl1, .nil⟩ (fun _ _ _ _ _ => trivial) ?_ ?_
      · rintro i x σ H4 H5 hi ⟨y5, y6, y7, xs, rfl, o4, hp4, hl4, pr⟩ ⟨rfl, c, hc, rfl⟩
        rw [hzl] at hi
        have hc2 : lastsC[i]? = some c := by
          have q := hc
          rw [← Array.getElem?_toList, hz, List.getElem?_take_of_lt hi] at q
          exact q
        refine ⟨_, rfl, _, rfl, p, 8, n + 2 + 10 * i, rfl, hp4, by decide, by decide, by omega, fun r5 H5 r50 r51 hp5 o5 => ?_⟩
        refine ⟨by show 3 ≤ sizeLine; decide, fun u nu => ?_⟩
        have t5 := same_new (o := .lst [.int 0, .int 1, .int r5]) nu
        have nup := hp5.ne nu
        refine ⟨p, u, _, _, rfl, hp5.same t5, by omega, upd_same, nup, (by show 1 ≤ 3; decide), (by show 3 ≤ 1000; decide), fun x H6 hx hp6 o6 => ?_⟩
        obtain ⟨r6, hr6, hr60, hr61⟩ : ∃ r6 : Nat, x = .int (r6 : Int) ∧ 0 ≤ r6 ∧ r6 ≤ 7 := by
          have hx2 : x = .int 0 ∨ x = .int 1 ∨ x = .int r5 := by simpa using hx
          rcases hx2 with rfl | rfl | rfl
          · exact ⟨0, rfl, by decide, by decide⟩
          · exact ⟨1, rfl, by decide, by decide⟩
          · exact ⟨r5.toNat, by rw [Int.toNat_of_nonneg r50], Nat.zero_le _, by omega⟩
        subst hr6
        refine ⟨(r6 : Int), rfl, by omega, by omega, ?_⟩
        have oD := ((o4.trans o5).trans (Same.off t5)).trans o6
        have hl6 : H6 l = some (.lst (xs.map V.str)) := o6 _ _ (t5 _ _ (o5 _ _ hl4 nlp)) nlp
        have er : (r6 : Int).toNat = r6 := Int.toNat_natCast r6
        rw [er]
        refine for_range (n := r6) (fun j σ H' => ∃ y7 wd, σ = [some (.ref p), some (.int (m : Int)), some (.ref q), some (.int (a : Int)), some (.ref l), some (.str ⟨#[c]⟩), some (.str wd), y7] ∧ Off p H H' ∧ SrcAt H' p (n + 2 + 10 * i + 2 + j) ∧ H' l = some (.lst (xs.map V.str)) ∧ wd.length ≤ j ∧ lettersB wd = true)
          ⟨y7, "", rfl, oD, hp6, hl6, Nat.le_refl _, rfl⟩ ?_ ?_
        · rintro j σ H7 hj ⟨y7', wd, rfl, o7, hp7, hl7, wl, wL⟩
          refine ⟨_, rfl, _, rfl, p, 26, _, rfl, hp7, by decide, by decide, by omega, fun r8 H8 r80 r81 hp8 o8 => ?_⟩
          obtain ⟨b, rfl⟩ := Int.eq_ofNat_of_zero_le r80
          have hb : b < 26 := by omega
          have alph : ∀ b, b < 26 → ∃ d, LET.cps[b]? = some d ∧ letter d = true := by
            intro b hb
            have hb2 : b < LET.cps.toList.length := by
              have e : LET.cps.toList.length = 26 := by decide +kernel
              omega
            refine ⟨LET.cps.toList[b], ?_, ?_⟩
            · rw [← Array.getElem?_toList, List.getElem?_eq_getElem hb2]
            · exact decide_eq_true (List.getElem_mem hb2)
          obtain ⟨d, hd, dl⟩ := alph b hb
          refine ⟨LET, _, d, rfl, rfl, by omega, by omega, ?_, ?_, ?_⟩
          · have e : LET.length = 26 := by decide +kernel
            show (b : Int) < (LET.length : Int)
            rw [e]
            omega
          · rw [Int.toNat_natCast]
            exact hd
          · have one1 : ((⟨#[d]⟩ : Str)).length = 1 := rfl
            refine ⟨wd, ⟨#[d]⟩, rfl, rfl, ?_, ?_⟩
            · rw [one1, sizeLine_eq]
              omega
            · refine ⟨_, wd ++ ⟨#[d]⟩, rfl, o7.trans o8, hp8.mono (by omega), o8 _ _ hl7 nlp, ?_, ?_⟩
              · rw [app_len, one1]
                omega
              · refine letters_app wL ?_
                show (([d] : List Nat).all letter) = true
                rw [List.all_cons, dl]
                rfl
        · rintro σ H7 ⟨y7', wd, rfl, o7, hp7, hl7, wl, wL⟩
          have one1 : ((⟨#[c]⟩ : Str)).length = 1 := rfl
          refine ⟨_, rfl, .inl ⟨rfl, _, SqL.of hl7⟩, _, rfl, _, rfl, wd, ⟨#[c]⟩, rfl, rfl, ?_, ?_⟩
          · rw [one1, sizeLine_eq]
            omega
          · have prl : xs.length = i := by
              have q := pr.length
              rw [List.length_take] at q
              have e6 : lastsC.length = 6 := rfl
              omega
            refine ⟨l, _, _, rfl, rfl, hl7, ?_, ?_⟩
            · rw [List.length_map]
              exact small1000 (by omega)
            · refine ⟨_, _, _, xs ++ [wd ++ ⟨#[c]⟩], rfl, ?_, ?_, ?_, ?_⟩
              · intro b o e nb
                have nbl : b ≠ l := fun z => by
                  rw [z, l0] at e
                  cases e
                rw [upd_ne nbl]
                exact o7 b o e nb
              · obtain ⟨x1, x2, x3, e1, rest⟩ := hp7
                exact SrcAt.mono ⟨x1, x2, x3, by rw [upd_ne nlp.symm]; exact e1, rest⟩ (by omega)
              · rw [upd_same, List.map_append]
                rfl
              · rw [List.take_add_one, hc2]
                exact pr.snoc ⟨wd, rfl, by omega, wL⟩
      · rintro σ H4 ⟨y5, y6, y7, xs, rfl, o4, hp4, hl4, pr⟩
        rw [hzl] at hp4 pr
        have prl : xs.length = m := by
          have q := pr.length
          rw [List.length_take] at q
          have e6 : lastsC.length = 6 := rfl
          omega
        exact ⟨_, rfl, k l xs H4 prl (made_names pr) l0 hl4 (hp4.mono (by omega)) o4⟩
end
end Toy
set_option Elab.async false
set_option linter.all false
set_option maxRecDepth 100000
set_option maxHeartbeats 4000000
namespace Toy
open PySem PySem.Spec PyProof.Rows L2
/-- a new object beside a source -/
theorem fresh {H : Hp} {p q : Addr} {n : Nat} {o : HO} (hp : SrcAt H p n) (e : H q = none) : Same (del H p) (del (upd H q o) p) ∧ del (upd H q o) p q = some o ∧ SrcAt (upd H q o) p n ∧ Off p H (upd H q o) := by
  have nq := hp.ne e
  have o1 : Off p H (upd H q o) := Same.off (same_new e)
  exact ⟨off_same o1, by rw [del_ne nq, upd_same], hp.same (same_new e), o1⟩
def rowT (r : Str × Str) : PyData := .tuple [.str r.1, .str r.2]
abbrev KRow := Str × List Str
def kindT (k : KRow) : PyData := .tuple [.str k.1, .tuple (k.2.map .str)]
theorem rowD_T (r : Str × Str) : rowD (rowT r) = (nameS r.1 && nameS r.2) := rfl
theorem rowOf_T (rows : Rows2) : (rows.map rowT).map rowOf = rows := by
  rw [List.map_map]
  exact List.map_id'' (fun r => rfl) rows
theorem sortsD_rows (rows : Rows2) : sortsD (.list (rows.map rowT)) = ((decide (1 ≤ rows.length) && decide (rows.length ≤ 3)) && (rows.all (fun r => nameS r.1 && nameS r.2) && (decide (rows.map (·.1)).Nodup && mutualB rows))) := by
  show ((decide (1 ≤ (rows.map rowT).length) && decide ((rows.map rowT).length ≤ 3)) && ((rows.map rowT).all rowD && (decide (((rows.map rowT).map rowOf).map (·.1)).Nodup && mutualB ((rows.map rowT).map rowOf)))) = _
  rw [rowOf_T, List.length_map, List.all_map]
  rfl
structure GoodS (rows : Rows2) : Prop where
  ok : sortsD (.list (rows.map rowT)) = true
  no : ∀ r ∈ rows, r.1 ≠ noth ∧ r.2 ≠ noth
theorem mutual_cons (q : Str × Str) (rows : Rows2) (x : Str) : valV ((q :: rows).map kvOf) (Sum.inr x) = if q.1 = x then some (.str q.2) else valV (rows.map kvOf) (Sum.inr x) := by
  by_cases h : q.1 = x
  · rw [if_pos h, List.map_cons, valV_pos (p := kvOf q) (congrArg Sum.inr h)]
    rfl
  · rw [if_neg h, List.map_cons, valV_neg (p := kvOf q) (fun z => h (Sum.inr.inj z))]
theorem good_of {rows : Rows2} (h1 : 1 ≤ rows.length) (h3 : rows.length ≤ 3) (hn : ∀ r ∈ rows, (nameS r.1 = true ∧ r.1 ≠ noth) ∧ (nameS r.2 = true ∧ r.2 ≠ noth)) (hd : (rows.map (·.1)).Nodup) (hm : mutualB rows = true) : GoodS rows := by
  refine ⟨?_, fun r hr => ⟨(hn r hr).1.2, (hn r hr).2.2⟩⟩
  rw [sortsD_rows, decide_eq_true h1, decide_eq_true h3, decide_eq_true hd, hm]
  have e : (rows.all fun r => nameS r.1 && nameS r.2) = true := List.all_eq_true.mpr fun r hr => by
    rw [(hn r hr).1.1, (hn r hr).2.1]
    rfl
  rw [e]
  rfl
theorem names3 {xs : List Str} (h : xs.length = 3) : ∃ a b c, xs = [a, b, c] := by
  match xs, h with
  | [a, b, c], _ => exact ⟨a, b, c, rfl⟩
def wayR (a b c : Str) : Nat → Rows2
  | 0 => [(a, a)]
  | 1 => [(a, b), (b, a)]
  | 2 => [(a, a), (b, c), (c, b)]
  | 3 => [(a, a), (b, b)]
  | _ => [(a, a)]
theorem way_good {a b c : Str} (h : Names [a, b, c]) (way : Nat) : GoodS (wayR a b c way) ∧ GoodS (wayR a b c way).reverse := by
  obtain ⟨nd, nm⟩ := h
  have ha := nm a (by simp)
  have hb := nm b (by simp)
  have hc := nm c (by simp)
  have nd2 : a ≠ b ∧ a ≠ c ∧ b ≠ c := by
    simp only [List.nodup_cons, List.mem_cons, List.not_mem_nil, or_false, not_or] at nd
    exact ⟨nd.1.1, nd.1.2, nd.2.1⟩
  obtain ⟨ab, ac, bc⟩ := nd2
  have g0 : GoodS [(a, a)] := good_of (by show 1 ≤ 1; decide) (by show 1 ≤ 3; decide) (by simp [ha]) (by simp) (by simp [-List.map_cons, mutualB, mutual_cons])
  match way with
  | 0 => exact ⟨g0, g0⟩
  | 1 =>
    show GoodS [(a, b), (b, a)] ∧ GoodS [(b, a), (a, b)]
    exact ⟨good_of (by show 1 ≤ 2; decide) (by show 2 ≤ 3; decide) (by simp [ha, hb]) (by simp [ab]) (by simp [-List.map_cons, mutualB, mutual_cons, ab, ab.symm]), good_of (by show 1 ≤ 2; decide) (by show 2 ≤ 3; decide) (by simp [ha, hb]) (by simp [ab.symm]) (by simp [-List.map_cons, mutualB, mutual_cons, ab, ab.symm])⟩
  | 2 =>
    show GoodS [(a, a), (b, c), (c, b)] ∧ GoodS [(c, b), (b, c), (a, a)]
    exact ⟨good_of (by show 1 ≤ 3; decide) (by show 3 ≤ 3; decide) (by simp [ha, hb, hc]) (by simp [ab, ac, bc]) (by simp [-List.map_cons, mutualB, mutual_cons, ab, ab.symm, ac, ac.symm, bc, bc.symm]), good_of (by show 1 ≤ 3; decide) (by show 3 ≤ 3; decide) (by simp [ha, hb, hc]) (by simp [ab.symm, ac.symm, bc.symm]) (by simp [-List.map_cons, mutualB, mutual_cons, ab, ab.symm, ac, ac.symm, bc, bc.symm])⟩
  | 3 =>
    show GoodS [(a, a), (b, b)] ∧ GoodS [(b, b), (a, a)]
    exact ⟨good_of (by show 1 ≤ 2; decide) (by show 2 ≤ 3; decide) (by simp [ha, hb]) (by simp [ab]) (by simp [-List.map_cons, mutualB, mutual_cons, ab, ab.symm]), good_of (by show 1 ≤ 2; decide) (by show 2 ≤ 3; decide) (by simp [ha, hb]) (by simp [ab.symm]) (by simp [-List.map_cons, mutualB, mutual_cons, ab, ab.symm])⟩
  | n + 4 => exact ⟨g0, g0⟩
/-! ### kinds -/
structure GoodK (keys : List Str) (ks : List KRow) : Prop where
  nd : (ks.map (·.1)).Nodup
  nm : ∀ k ∈ ks, nameS k.1 = true
  en : ∀ k ∈ ks, 1 ≤ k.2.length ∧ k.2.length ≤ 5 ∧ (∀ x ∈ k.2, nameS x = true ∧ x ∈ keys) ∧ sortedS k.2 = true
theorem strO_map (xs : List Str) : (xs.map PyData.str).map strO = xs := by
  rw [List.map_map]
  exact List.map_id'' (fun r => rfl) xs
theorem endsD_strs (keys xs : List Str) : endsD keys (.tuple (xs.map .str)) = ((decide (1 ≤ xs.length) && decide (xs.length ≤ 5)) && ((xs.all fun x => nameS x && decide (x ∈ keys)) && sortedS xs)) := by
  show ((decide (1 ≤ (xs.map PyData.str).length) && decide ((xs.map PyData.str).length ≤ 5)) && (((xs.map PyData.str).all fun d => nameD d && decide (strO d ∈ keys)) && sortedS ((xs.map PyData.str).map strO))) = _
  rw [strO_map, List.length_map, List.all_map]
  rfl
theorem GoodK.kind {keys : List Str} {ks : List KRow} (g : GoodK keys ks) {k : KRow} (hk : k ∈ ks) : kindD keys (kindT k) = true := by
  show (nameS k.1 && endsD keys (.tuple (k.2.map .str))) = true
  obtain ⟨h1, h5, h2, h3⟩ := g.en k hk
  rw [g.nm k hk, endsD_strs, decide_eq_true h1, decide_eq_true h5, h3]
  have e : (k.2.all fun x => nameS x && decide (x ∈ keys)) = true := List.all_eq_true.mpr fun x hx => by
    rw [(h2 x hx).1, decide_eq_true (h2 x hx).2]
    rfl
  rw [e]
  rfl
theorem GoodK.ok {keys : List Str} {ks : List KRow} (g : GoodK keys ks) (h1 : 1 ≤ ks.length) (h4 : ks.length ≤ 4) : kindsD keys (.list (ks.map kindT)) = true := by
  show ((decide (1 ≤ (ks.map kindT).length) && decide ((ks.map kindT).length ≤ 4)) && (((ks.map kindT).all (kindD keys)) && decide ((ks.map kindT).map name0).Nodup)) = true
  have e0 : (ks.map kindT).map name0 = ks.map (·.1) := by
    rw [List.map_map]
    rfl
  have e : (ks.map kindT).all (kindD keys) = true := List.all_eq_true.mpr fun d hd => by
    obtain ⟨k, hk, rfl⟩ := List.mem_map.mp hd
    exact g.kind hk
  rw [e0, e, decide_eq_true g.nd, List.length_map, decide_eq_true h1, decide_eq_true h4]
  rfl
def spStock : Sp := fun vs H Q _ => ∃ (p : Addr) (n : Nat), vs = [.ref p, .int 5] ∧ SrcAt H p n ∧ n ≤ 5000 ∧
  ∀ (t ls lk : Addr) (rows : Rows2) (ks : List KRow) (H' : Hp), GoodS rows → GoodK (rows.map (·.1)) ks → 1 ≤ ks.length → ks.length ≤ 4 → del H' p t = some (.tup [.ref ls, .ref lk]) → Dt (del H' p) (.ref ls) (.list (rows.map rowT)) → Dt (del H' p) (.ref lk) (.list (ks.map kindT)) →
    SrcAt H' p (n + 400) → Off p H H' → Q (.ref t) H'
theorem okS_name {x : Str} (h : nameS x = true) : okS x := by
  unfold nameS at h
  rw [Bool.and_eq_true, Bool.and_eq_true, decide_eq_true_eq, decide_eq_true_eq, List.all_eq_true] at h
  refine ⟨by omega, ?_⟩
  show (x.cps.all (· < 0x110000)) = true
  rw [← Array.all_toList, List.all_eq_true]
  intro c hc
  have q := h.2 c hc
  have small : ∀ c ∈ LET.cps.toList, decide (c < 0x110000) = true := by decide +kernel
  exact small c (of_decide_eq_true q)
theorem dt_row {H : Hp} {t : Addr} {x y : Str} (hx : nameS x = true) (hy : nameS y = true) (e : H t = some (.tup [.str x, .str y])) : Dt H (.ref t) (rowT (x, y)) := .tup e (by show 2 ≤ 1000; decide) (.cons (.str x (okS_name hx)) (.cons (.str y (okS_name hy)) .nil))
abbrev del2 (H : Hp) (p l : Addr) : Hp := del (del H p) l
theorem same_del {H H' : Hp} {l : Addr} (s : Same H H') : Same (del H l) (del H' l) := fun b o e => by
  by_cases q : b = l
  · rw [q, del_same] at e
    cases e
  · rw [del_ne q] at e ⊢
    exact s b o e
theorem off2 {p l : Addr} {H H' : Hp} (h : Off p H H') : Same (del2 H p l) (del2 H' p l) := same_del (off_same h)
theorem del2_upd {p l : Addr} {H : Hp} {o : HO} : Same (del2 H p l) (del2 (upd H l o) p l) := fun b x e => by
  unfold del2 at e ⊢
  by_cases q : b = l
  · rw [q, del_same] at e
    cases e
  · rw [del_ne q] at e ⊢
    by_cases q2 : b = p
    · rw [q2, del_same] at e
      cases e
    · rw [del_ne q2] at e ⊢
      rw [upd_ne q]
      exact e
theorem Off.upd0 {p q : Addr} {H H1 : Hp} {o : HO} (a : Off p H H1) (n : H q = none) : Off p H (L2.upd H1 q o) := fun b x e nb => by
  have nq : b ≠ q := fun z => by
    rw [z, n] at e
    cases e
  rw [upd_ne nq]
  exact a b x e nb
theorem SrcAt.upd {p q : Addr} {H : Hp} {o : HO} {n : Nat} (h : SrcAt H p n) (nq : q ≠ p) : SrcAt (L2.upd H q o) p n := by
  obtain ⟨x, y, z, e, r⟩ := h
  exact ⟨x, y, z, by rw [upd_ne nq.symm]; exact e, r⟩
def GoodE (keys : List Str) (k : KRow) : Prop := 1 ≤ k.2.length ∧ k.2.length ≤ 5 ∧ (∀ x ∈ k.2, nameS x = true ∧ x ∈ keys) ∧ sortedS k.2 = true
theorem row_mem {H : Hp} {xs : List V} {rows : Rows2} (r : DtAll H xs (rows.map rowT)) {x : V} (h : x ∈ xs) : ∃ q r, r ∈ rows ∧ x = .ref q ∧ H q = some (.tup [.str r.1, .str r.2]) := by
  obtain ⟨i, hi⟩ := List.mem_iff_getElem?.mp h
  obtain ⟨d, hd, hx⟩ := r.at_ hi
  rw [List.getElem?_map] at hd
  cases e : rows[i]? with
  | none =>
    rw [e] at hd
    cases hd
  | some r =>
    rw [e] at hd
    cases hd
    cases hx with
    | tup e1 _ l =>
      cases l with
      | cons h1 l =>
        cases l with
        | cons h2 l =>
          cases l
          cases h1
          cases h2
          exact ⟨_, r, List.mem_of_getElem? e, rfl, e1⟩
theorem good_rows {rows : Rows2} (g : GoodS rows) : 1 ≤ rows.length ∧ rows.length ≤ 3 ∧ (∀ r ∈ rows, nameS r.1 = true ∧ nameS r.2 = true) ∧ (rows.map (·.1)).Nodup ∧ mutualB rows = true := by
  have h := g.ok
  rw [sortsD_rows, Bool.and_eq_true, Bool.and_eq_true, Bool.and_eq_true, Bool.and_eq_true, decide_eq_true_eq, decide_eq_true_eq, decide_eq_true_eq, List.all_eq_true] at h
  refine ⟨h.1.1, h.1.2, fun r hr => ?_, h.2.2.1, h.2.2.2⟩
  have q := h.2.1 r hr
  rw [Bool.and_eq_true] at q
  exact q
theorem dt_strs {H : Hp} {t : Addr} {ys : List Str} (e : H t = some (.tup (ys.map V.str))) (hl : ys.length ≤ 1000) (h : ∀ x ∈ ys, nameS x = true) : Dt H (.ref t) (.tuple (ys.map .str)) := .tup e (by rw [List.length_map]; exact hl) (DtAll.strs ys fun x hx => okS_name (h x hx))
section
variable {P : Program} {w : World} {K : PySem.W.Frag} {mg : Str → Option Value} {base : Heap}
abbrev stN : List Str := ["_law_source", "_law_most", "_law_names_here", "_law_way", "_law_one_here", "_law_two", "_law_three", "_law_sorts", "_law_kinds", "_law_name", "_law_ends", "_law_k"]
theorem scStock : FnScope stN ["_law_source", "_law_most"] (defScope sStock) := ⟨rfl, rfl, rfl, by decide +kernel, rfl, by decide +kernel, by decide +kernel⟩
theorem ok_stock {f fN fO fM : Addr} {fd fdN fdO fdM : FuncData} (F : Fun K "_law_stock" "_law_stock" sStock f fd) (M : Mods mg)
    (GN : FnOk P w K mg base CX0 1 fN fdN ["_law_source", "_law_many"] spNext) (kN : PySem.W.keepIn K (.ref fN) = true) (bN : Binds K fdN ["_law_source", "_law_many"] []) (gN : mg "_law_next" = some (.ref fN))
    (GO : FnOk P w K mg base CX0 2 fO fdO ["_law_source", "_law_some"] spOne) (kO : PySem.W.keepIn K (.ref fO) = true) (bO : Binds K fdO ["_law_source", "_law_some"] []) (gO : mg "_law_one" = some (.ref fO))
    (GM : FnOk P w K mg base CX0 3 fM fdM ["_law_source", "_law_many"] spNames) (kM : PySem.W.keepIn K (.ref fM) = true) (bM : Binds K fdM ["_law_source", "_law_many"] []) (gM : mg "_law_names" = some (.ref fM)) (mR : mg "range" = none) :
    FnOk P w K mg base CX0 4 f fd ["_law_source", "_law_most"] spStock := by
  refine F.ok scStock (fun vs H Q E h => ?_) (fun cdv A outer s H vs Q E hr h => ?_)
  · obtain ⟨p, n, rfl, _⟩ := h
    rfl
  · obtain ⟨p, n, rfl, hp, hn, k⟩ := h
    have hr2 : Room 2 (A.deeper (envOfC "_law_stock" (defScope sStock) s.heap.objs.size f cdv)) := hr.mono (by decide)
    have hr1 : Room 1 (A.deeper (envOfC "_law_stock" (defScope sStock) s.heap.objs.size f cdv)) := hr.mono (by decide)
    refine ⟨_, (pss_cons (ps_set (i := 2) scStock.nd rfl (Or.inl rfl) (pe_call GM hr (by rfl) gM kM bM .nil pass0 (pa_cons (pv 0) (pa_cons pe_int pa_nil))))
      (pss_cons (ps_set (i := 3) scStock.nd rfl (Or.inl rfl) (pe_call GN hr1 (by rfl) gN kN bN .nil pass0 (pa_cons (pv 0) (pa_cons pe_int pa_nil))))
      (pss_cons (ps_asg (pv 2) (pg_lst rfl (pgs_cons (pg_name (i := 4) scStock.nd rfl (Or.inl rfl)) (pgs_cons (pg_name (i := 5) scStock.nd rfl (Or.inl rfl)) (pgs_cons (pg_name (i := 6) scStock.nd rfl (Or.inl rfl)) pgs_nil)))))
      (pss_cons (ps_set (i := 7) scStock.nd rfl (Or.inr rfl) (pe_lst (pa_cons (pe_lst (pa_cons (pe_tup (pa_cons (pv 4) (pa_cons (pv 4) pa_nil))) pa_nil)) (pa_cons (pe_lst (pa_cons (pe_tup (pa_cons (pv 4) (pa_cons (pv 5) pa_nil))) (pa_cons (pe_tup (pa_cons (pv 5) (pa_cons (pv 4) pa_nil))) pa_nil))) (pa_cons (pe_lst (pa_cons (pe_tup (pa_cons (pv 4) (pa_cons (pv 4) pa_nil))) (pa_cons (pe_tup (pa_cons (pv 5) (pa_cons (pv 6) pa_nil))) (pa_cons (pe_tup (pa_cons (pv 6) (pa_cons (pv 5) pa_nil))) pa_nil)))) (pa_cons (pe_lst (pa_cons (pe_tup (pa_cons (pv 4) (pa_cons (pv 4) pa_nil))) (pa_cons (pe_tup (pa_cons (pv 5) (pa_cons (pv 5) pa_nil))) pa_nil))) pa_nil))))))
      (pss_cons (ps_set (i := 7) scStock.nd rfl (Or.inr rfl) (pe_ix ix_list (pe_op op_cat (pv 7) (pe_slice sl_list (pv 7) po_none (po_some pe_int))) (pv 3) (fun _ _ => rfl)))
      (pss_cons (ps_if (pt_cmpR op_eq (pe_call GN hr1 (by rfl) gN kN bN .nil pass0 (pa_cons (pv 0) (pa_cons pe_int pa_nil))) pe_int (nomark _)) (pss_one (ps_set (i := 7) scStock.nd rfl (Or.inr rfl) (pe_revL (pv 7)))) pss_nil)
      (pss_cons (ps_set (i := 8) scStock.nd rfl (Or.inl rfl) (pe_lst pa_nil))
      (pss_cons (ps_for PassesOwn.never rfl (pi_list (pe_call GM hr (by rfl) gM kM bM .nil pass0 (pa_cons (pv 0) (pa_cons (pe_op op_add pe_int (pe_call GN hr1 (by rfl) gN kN bN .nil pass0 (pa_cons (pv 0) (pa_cons pe_int pa_nil)))) pa_nil)))) (pg_name (i := 9) scStock.nd rfl (Or.inl rfl)) (pss_cons (ps_setLc (i := 10) (own := [("_law_k", 11)]) (g := gName 11) (tt := tYes) (te := (tOp (rIxT K) (tCall spOne [] E0 (tCons (tVar 0) (tCons (tVar 7) tNil))) (tC (.int 0)))) rfl scStock.nd rfl rfl (sw_true rfl rfl rfl (by decide +kernel)) (pi_range1 (by rfl) mR (pa_cons (pe_call GO hr2 (by rfl) gO kO bO .nil pass0 (pa_cons (pv 0) (pa_cons (pe_lst (pa_cons (pe_op op_add pe_int (pe_call GN hr1 (by rfl) gN kN bN .nil pass0 (pa_cons (pv 0) (pa_cons (pv 1) pa_nil)))) (pa_cons (pv 1) (pa_cons pe_int pa_nil)))) pa_nil))) pa_nil)) (blkOk_by (N := stN) (sc := defScope sStock) (by decide +kernel)) (fun _ _ _ _ _ => pg_name (i := 11) scStock.nd rfl (Or.inl rfl)) (fun _ _ _ _ _ => pts_nil) (fun _ _ _ _ _ => (by exact pe_ix ix_tup (pe_call GO hr2 (by rfl) gO kO bO .nil pass0 (pa_cons (pv 0) (pa_cons (pv 7) pa_nil))) pe_int (fun _ _ => rfl))))
      (pss_one (ps_expr (pe_bm PySem.F.plainAttrs_list PySem.F.slot_list_append PySem.F.type_list_append mt_append (pv 8) (pa_cons (pe_tup (pa_cons (pv 9) (pa_cons (pe_callTy call_tuple_of (by rfl) M.tup_ (by decide +kernel) (pa_cons (pe_callB cr_sortedS (by rfl) M.srt (by decide +kernel) (pa_cons (pv 10) pa_nil)) pa_nil)) pa_nil))) pa_nil))))))
      (pss_one (ps_ret (pe_tup (pa_cons (pv 7) (pa_cons (pv 8) pa_nil))))))))))))), ?_⟩
    refine ⟨_, rfl, p, 3, n, rfl, hp, by omega, by decide, fun l0 nms H1 l3 hnm l00 hl0 hp1 o1 => ?_⟩
    obtain ⟨a, b, c, rfl⟩ := names3 l3
    refine ⟨_, rfl, p, 5, n + 100, rfl, hp1, by decide, by decide, by omega, fun r H2 r0 r1 hp2 o2 => ?_⟩
    obtain ⟨way, rfl⟩ := Int.eq_ofNat_of_zero_le r0
    have nl0p : l0 ≠ p := hp.ne l00
    have hl02 := o2 _ _ hl0 nl0p
    refine ⟨_, rfl, l0, _, rfl, SqL.of hl02, rfl, _, _, rfl, _, _, rfl, _, _, rfl, rfl, ?_⟩
    have oA := o1.trans o2
    have ha := (hnm.nm a (by simp)).1
    have hb := (hnm.nm b (by simp)).1
    have hc := (hnm.nm c (by simp)).1
    refine ⟨_, rfl, _, rfl, by show 2 ≤ sizeLine; decide, fun t00 nt00 => ?_⟩
    obtain ⟨st00, dt00, pt00, ft00⟩ := fresh (o := .tup [.str a, .str a]) hp2 nt00
    have gt00 : upd H2 t00 (.tup [.str a, .str a]) t00 = some (.tup [.str a, .str a]) := upd_same
    have xt00 := same_new (o := .tup [.str a, .str a]) nt00
    have ot00 := oA.trans ft00
    generalize upd H2 t00 (.tup [.str a, .str a]) = Gt00 at st00 dt00 pt00 ft00 gt00 xt00 ot00 ⊢
    refine ⟨by show 1 ≤ sizeLine; decide, fun w0 nw0 => ?_⟩
    obtain ⟨sw0, dw0, pw0, fw0⟩ := fresh (o := .lst [.ref t00]) pt00 nw0
    have gw0 : upd Gt00 w0 (.lst [.ref t00]) w0 = some (.lst [.ref t00]) := upd_same
    have xw0 := same_new (o := .lst [.ref t00]) nw0
    have ow0 := ot00.trans fw0
    generalize upd Gt00 w0 (.lst [.ref t00]) = Gw0 at sw0 dw0 pw0 fw0 gw0 xw0 ow0 ⊢
    have W0 : Dt (del Gw0 p) (.ref w0) (.list ((wayR a b c 0).map rowT)) := .lst dw0 (by show 1 ≤ 1000; decide) (.cons (dt_row ha ha (sw0 _ _ dt00)) .nil)
    refine ⟨_, rfl, _, rfl, by show 2 ≤ sizeLine; decide, fun t10 nt10 => ?_⟩
    obtain ⟨st10, dt10, pt10, ft10⟩ := fresh (o := .tup [.str a, .str b]) pw0 nt10
    have gt10 : upd Gw0 t10 (.tup [.str a, .str b]) t10 = some (.tup [.str a, .str b]) := upd_same
    have xt10 := same_new (o := .tup [.str a, .str b]) nt10
    have ot10 := ow0.trans ft10
    generalize upd Gw0 t10 (.tup [.str a, .str b]) = Gt10 at st10 dt10 pt10 ft10 gt10 xt10 ot10 ⊢
    refine ⟨_, rfl, _, rfl, by show 2 ≤ sizeLine; decide, fun t11 nt11 => ?_⟩
    obtain ⟨st11, dt11, pt11, ft11⟩ := fresh (o := .tup [.str b, .str a]) pt10 nt11
    have gt11 : upd Gt10 t11 (.tup [.str b, .str a]) t11 = some (.tup [.str b, .str a]) := upd_same
    have xt11 := same_new (o := .tup [.str b, .str a]) nt11
    have ot11 := ot10.trans ft11
    generalize upd Gt10 t11 (.tup [.str b, .str a]) = Gt11 at st11 dt11 pt11 ft11 gt11 xt11 ot11 ⊢
    refine ⟨by show 2 ≤ sizeLine; decide, fun w1 nw1 => ?_⟩
    obtain ⟨sw1, dw1, pw1, fw1⟩ := fresh (o := .lst [.ref t10, .ref t11]) pt11 nw1
    have gw1 : upd Gt11 w1 (.lst [.ref t10, .ref t11]) w1 = some (.lst [.ref t10, .ref t11]) := upd_same
    have xw1 := same_new (o := .lst [.ref t10, .ref t11]) nw1
    have ow1 := ot11.trans fw1
    generalize upd Gt11 w1 (.lst [.ref t10, .ref t11]) = Gw1 at sw1 dw1 pw1 fw1 gw1 xw1 ow1 ⊢
    have W1 : Dt (del Gw1 p) (.ref w1) (.list ((wayR a b c 1).map rowT)) := .lst dw1 (by show 2 ≤ 1000; decide) (.cons (dt_row ha hb ((st11.trans sw1) _ _ dt10)) (.cons (dt_row hb ha (sw1 _ _ dt11)) .nil))
    refine ⟨_, rfl, _, rfl, by show 2 ≤ sizeLine; decide, fun t20 nt20 => ?_⟩
    obtain ⟨st20, dt20, pt20, ft20⟩ := fresh (o := .tup [.str a, .str a]) pw1 nt20
    have gt20 : upd Gw1 t20 (.tup [.str a, .str a]) t20 = some (.tup [.str a, .str a]) := upd_same
    have xt20 := same_new (o := .tup [.str a, .str a]) nt20
    have ot20 := ow1.trans ft20
    generalize upd Gw1 t20 (.tup [.str a, .str a]) = Gt20 at st20 dt20 pt20 ft20 gt20 xt20 ot20 ⊢
    refine ⟨_, rfl, _, rfl, by show 2 ≤ sizeLine; decide, fun t21 nt21 => ?_⟩
    obtain ⟨st21, dt21, pt21, ft21⟩ := fresh (o := .tup [.str b, .str c]) pt20 nt21
    have gt21 : upd Gt20 t21 (.tup [.str b, .str c]) t21 = some (.tup [.str b, .str c]) := upd_same
    have xt21 := same_new (o := .tup [.str b, .str c]) nt21
    have ot21 := ot20.trans ft21
    generalize upd Gt20 t21 (.tup [.str b, .str c]) = Gt21 at st21 dt21 pt21 ft21 gt21 xt21 ot21 ⊢
    refine ⟨_, rfl, _, rfl, by show 2 ≤ sizeLine; decide, fun t22 nt22 => ?_⟩
    obtain ⟨st22, dt22, pt22, ft22⟩ := fresh (o := .tup [.str c, .str b]) pt21 nt22
    have gt22 : upd Gt21 t22 (.tup [.str c, .str b]) t22 = some (.tup [.str c, .str b]) := upd_same
    have xt22 := same_new (o := .tup [.str c, .str b]) nt22
    have ot22 := ot21.trans ft22
    generalize upd Gt21 t22 (.tup [.str c, .str b]) = Gt22 at st22 dt22 pt22 ft22 gt22 xt22 ot22 ⊢
    refine ⟨by show 3 ≤ sizeLine; decide, fun w2 nw2 => ?_⟩
    obtain ⟨sw2, dw2, pw2, fw2⟩ := fresh (o := .lst [.ref t20, .ref t21, .ref t22]) pt22 nw2
    have gw2 : upd Gt22 w2 (.lst [.ref t20, .ref t21, .ref t22]) w2 = some (.lst [.ref t20, .ref t21, .ref t22]) := upd_same
    have xw2 := same_new (o := .lst [.ref t20, .ref t21, .ref t22]) nw2
    have ow2 := ot22.trans fw2
    generalize upd Gt22 w2 (.lst [.ref t20, .ref t21, .ref t22]) = Gw2 at sw2 dw2 pw2 fw2 gw2 xw2 ow2 ⊢
    have W2 : Dt (del Gw2 p) (.ref w2) (.list ((wayR a b c 2).map rowT)) := .lst dw2 (by show 3 ≤ 1000; decide) (.cons (dt_row ha ha (((st21.trans st22).trans sw2) _ _ dt20)) (.cons (dt_row hb hc ((st22.trans sw2) _ _ dt21)) (.cons (dt_row hc hb (sw2 _ _ dt22)) .nil)))
    refine ⟨_, rfl, _, rfl, by show 2 ≤ sizeLine; decide, fun t30 nt30 => ?_⟩
    obtain ⟨st30, dt30, pt30, ft30⟩ := fresh (o := .tup [.str a, .str a]) pw2 nt30
    have gt30 : upd Gw2 t30 (.tup [.str a, .str a]) t30 = some (.tup [.str a, .str a]) := upd_same
    have xt30 := same_new (o := .tup [.str a, .str a]) nt30
    have ot30 := ow2.trans ft30
    generalize upd Gw2 t30 (.tup [.str a, .str a]) = Gt30 at st30 dt30 pt30 ft30 gt30 xt30 ot30 ⊢
    refine ⟨_, rfl, _, rfl, by show 2 ≤ sizeLine; decide, fun t31 nt31 => ?_⟩
    obtain ⟨st31, dt31, pt31, ft31⟩ := fresh (o := .tup [.str b, .str b]) pt30 nt31
    have gt31 : upd Gt30 t31 (.tup [.str b, .str b]) t31 = some (.tup [.str b, .str b]) := upd_same
    have xt31 := same_new (o := .tup [.str b, .str b]) nt31
    have ot31 := ot30.trans ft31
    generalize upd Gt30 t31 (.tup [.str b, .str b]) = Gt31 at st31 dt31 pt31 ft31 gt31 xt31 ot31 ⊢
    refine ⟨by show 2 ≤ sizeLine; decide, fun w3 nw3 => ?_⟩
    obtain ⟨sw3, dw3, pw3, fw3⟩ := fresh (o := .lst [.ref t30, .ref t31]) pt31 nw3
    have gw3 : upd Gt31 w3 (.lst [.ref t30, .ref t31]) w3 = some (.lst [.ref t30, .ref t31]) := upd_same
    have xw3 := same_new (o := .lst [.ref t30, .ref t31]) nw3
    have ow3 := ot31.trans fw3
    generalize upd Gt31 w3 (.lst [.ref t30, .ref t31]) = Gw3 at sw3 dw3 pw3 fw3 gw3 xw3 ow3 ⊢
    have W3 : Dt (del Gw3 p) (.ref w3) (.list ((wayR a b c 3).map rowT)) := .lst dw3 (by show 2 ≤ 1000; decide) (.cons (dt_row ha ha ((st31.trans sw3) _ _ dt30)) (.cons (dt_row hb hb (sw3 _ _ dt31)) .nil))
    refine ⟨by show 4 ≤ sizeLine; decide, fun u nu => ?_⟩
    obtain ⟨su, du, pu, fu⟩ := fresh (o := .lst [.ref w0, .ref w1, .ref w2, .ref w3]) pw3 nu
    have gu : upd Gw3 u (.lst [.ref w0, .ref w1, .ref w2, .ref w3]) u = some (.lst [.ref w0, .ref w1, .ref w2, .ref w3]) := upd_same
    have xu := same_new (o := .lst [.ref w0, .ref w1, .ref w2, .ref w3]) nu
    have ou := ow3.trans fu
    generalize upd Gw3 u (.lst [.ref w0, .ref w1, .ref w2, .ref w3]) = Gu at su du pu fu gu xu ou ⊢
    refine ⟨_, rfl, _, rfl, 1, rfl, u, _, rfl, SqL.of gu, fun u2 nu2 => ?_⟩
    obtain ⟨su2, du2, pu2, fu2⟩ := fresh (o := .lst (cutV [.ref w0, .ref w1, .ref w2, .ref w3] none (some 1))) pu nu2
    have gu2 : upd Gu u2 (.lst (cutV [.ref w0, .ref w1, .ref w2, .ref w3] none (some 1))) u2 = some (.lst (cutV [.ref w0, .ref w1, .ref w2, .ref w3] none (some 1))) := upd_same
    have xu2 := same_new (o := .lst (cutV [.ref w0, .ref w1, .ref w2, .ref w3] none (some 1))) nu2
    have ou2 := ou.trans fu2
    generalize upd Gu u2 (.lst (cutV [.ref w0, .ref w1, .ref w2, .ref w3] none (some 1))) = Gu2 at su2 du2 pu2 fu2 gu2 xu2 ou2 ⊢
    refine ⟨u, u2, _, _, rfl, rfl, xu2 _ _ gu, gu2, by show 5 ≤ sizeLine; decide, fun u3 nu3 => ?_⟩
    obtain ⟨su3, du3, pu3, fu3⟩ := fresh (o := .lst ([.ref w0, .ref w1, .ref w2, .ref w3] ++ cutV [.ref w0, .ref w1, .ref w2, .ref w3] none (some 1))) pu2 nu3
    have gu3 : upd Gu2 u3 (.lst ([.ref w0, .ref w1, .ref w2, .ref w3] ++ cutV [.ref w0, .ref w1, .ref w2, .ref w3] none (some 1))) u3 = some (.lst ([.ref w0, .ref w1, .ref w2, .ref w3] ++ cutV [.ref w0, .ref w1, .ref w2, .ref w3] none (some 1))) := upd_same
    have xu3 := same_new (o := .lst ([.ref w0, .ref w1, .ref w2, .ref w3] ++ cutV [.ref w0, .ref w1, .ref w2, .ref w3] none (some 1))) nu3
    have ou3 := ou2.trans fu3
    generalize upd Gu2 u3 (.lst ([.ref w0, .ref w1, .ref w2, .ref w3] ++ cutV [.ref w0, .ref w1, .ref w2, .ref w3] none (some 1))) = Gu3 at su3 du3 pu3 fu3 gu3 xu3 ou3 ⊢
    have Y0 := W0.same ((((((((((((st10.trans st11).trans sw1).trans st20).trans st21).trans st22).trans sw2).trans st30).trans st31).trans sw3).trans su).trans su2).trans su3)
    have Y1 := W1.same (((((((((st20.trans st21).trans st22).trans sw2).trans st30).trans st31).trans sw3).trans su).trans su2).trans su3)
    have Y2 := W2.same (((((st30.trans st31).trans sw3).trans su).trans su2).trans su3)
    have Y3 := W3.same ((su.trans su2).trans su3)
    have hway : way < 5 := by omega
    obtain ⟨wx, at_, Dx⟩ : ∃ wx, ([V.ref w0, V.ref w1, V.ref w2, V.ref w3] ++ cutV [V.ref w0, V.ref w1, V.ref w2, V.ref w3] none (some 1))[way]? = some (V.ref wx) ∧ Dt (del Gu3 p) (.ref wx) (.list ((wayR a b c way).map rowT)) := by
      match way, hway with
      | 0, _ => exact ⟨w0, rfl, Y0⟩
      | 1, _ => exact ⟨w1, rfl, Y1⟩
      | 2, _ => exact ⟨w2, rfl, Y2⟩
      | 3, _ => exact ⟨w3, rfl, Y3⟩
      | 4, _ => exact ⟨w0, rfl, Y0⟩
    refine ⟨_, rfl, u3, _, _, _, rfl, rfl, SqL.of gu3, at_of rfl at_, ?_⟩
    have hwx : del Gu3 p wx = some (.lst (match way with | 0 => [.ref t00] | _ => [])) ∨ True := .inr trivial
    clear hwx
    obtain ⟨gd1, gd2⟩ := way_good (a := a) (b := b) (c := c) hnm way
    obtain ⟨xw, hwx, lwx, rwx⟩ := dt_list Dx
    refine ⟨_, rfl, p, 2, n + 101, rfl, pu3, by decide, by decide, by omega, fun r3 H3 r30 r31 hp3 o3 => ?_⟩
    have Dx3 := Dx.same (off_same o3)
    have hwx3 := off_same o3 _ _ hwx
    have oX := ou3.trans o3
    refine ⟨rfl, _, rfl, ite2 (fun _ => ?_) (fun _ => ?_)⟩
    case' refine_1 =>
      refine ⟨_, rfl, wx, xw, rfl, SqL.of (del_sub _ _ hwx3), fun lx nlx => ?_⟩
      obtain ⟨slx, dlx, hp5, flx⟩ := fresh (o := .lst xw.reverse) hp3 nlx
      have o5 := oX.trans flx
      generalize eqH : upd H3 lx (.lst xw.reverse) = H5 at slx dlx hp5 flx o5 ⊢
      have D5 : Dt (del H5 p) (.ref lx) (.list ((wayR a b c way).reverse.map rowT)) := by
        rw [List.map_reverse]
        exact .lst dlx (by rw [List.length_reverse]; exact lwx) ((rwx.same ((off_same o3).trans slx)).rev)
      generalize (wayR a b c way).reverse = rows at D5 gd2
      have gd := gd2
    case' refine_2 =>
      have hp5 := hp3
      have o5 := oX
      have D5 := Dx3
      generalize (wayR a b c way) = rows at D5 gd1
      have gd := gd1
      generalize wx = lx at D5 ⊢
      generalize H3 = H5 at hp5 o5 D5 ⊢
    all_goals
      obtain ⟨g1, g3, gN_, gnd, gmu⟩ := good_rows gd
      refine ⟨Nat.zero_le _, fun lk nlk => ?_⟩
      have nlkp := hp5.ne nlk
      have lk0 : H lk = none := o5.free hp5 nlk
      obtain ⟨sk1, dk1, hp6, fk1⟩ := fresh (o := .lst []) hp5 nlk
      have hlk6 : upd H5 lk (.lst []) lk = some (.lst []) := upd_same
      have o6 := o5.trans fk1
      have D6 : Dt (del2 (upd H5 lk (.lst [])) p lk) (.ref lx) (.list (rows.map rowT)) := by
        have e : del H5 p = del2 (upd H5 lk (.lst [])) p lk := by
          funext q
          unfold del2
          by_cases z : q = lk
          · have e0 : del H5 p lk = none := by
              rw [del_ne nlkp]
              exact nlk
            rw [z, del_same, e0]
          · rw [del_ne z]
            by_cases z2 : q = p
            · rw [z2, del_same, del_same]
            · rw [del_ne z2, del_ne z2, upd_ne z]
        rw [← e]
        exact D5
      generalize upd H5 lk (.lst []) = H6 at sk1 dk1 hp6 fk1 hlk6 o6 D6 ⊢
      refine ⟨_, rfl, _, rfl, p, 4, n + 102, rfl, hp6, by decide, by decide, by omega, fun r7 H7 r70 r71 hp7 o7 => ?_⟩
      obtain ⟨a4, rfl⟩ := Int.eq_ofNat_of_zero_le r70
      refine ⟨_, _, rfl, rfl, p, 1 + a4, n + 103, rfl, hp7, by omega, by omega, fun lnm nms H8 l8 hnm8 lnm0 hlnm hp8 o8 => ?_⟩
      refine ⟨lnm, rfl, ⟨_, SqL.of hlnm⟩, ?_⟩
      have nlnmp : lnm ≠ p := hp7.ne lnm0
      have nlkl : lnm ≠ lk := fun z => by
        have q := o7 _ _ hlk6 nlkp
        rw [← z, lnm0] at q
        cases q
      have oZ := (o6.trans o7).trans o8
      have D8 := D6.same ((off2 (l := lk) o7).trans (off2 o8))
      have hlk8 := o8 _ _ (o7 _ _ hlk6 nlkp) nlkp
      refine for_it walk_list (fun i σ H' => ∃ (y9 y10 y11 : Option V) (ks : List KRow) (vs : List V), σ = [some (.ref p), some (.int 5), some (.ref l0), some (.int (way : Int)), some (.str a), some (.str b), some (.str c), some (.ref lx), some (.ref lk), y9, y10, y11] ∧ Off p H H' ∧ SrcAt H' p (n + 203 + 20 * i) ∧ H' lnm = some (.lst (nms.map V.str)) ∧ H' lk = some (.lst vs) ∧ Dt (del2 H' p lk) (.ref lx) (.list (rows.map rowT)) ∧ DtAll (del2 H' p lk) vs (ks.map kindT) ∧ ks.map (·.1) = nms.take i ∧ ∀ k ∈ ks, GoodE (rows.map (·.1)) k)
        ⟨none, none, none, [], [], rfl, oZ, hp8, hlnm, hlk8, D8, .nil, rfl, fun _ z => nomatch z⟩ (fun i σ H' hi ⟨_, _, _, _, _, _, _, _, e, _⟩ => SqL.of e) ?_ ?_
      · rintro i x σ H9 H9' hi ⟨y9, y10, y11, ks, vs, rfl, o9, hp9, hlnm9, hlk9, D9, ra9, km, hks⟩ ⟨rfl, hx⟩
        rw [List.length_map, l8] at hi
        have hnx : ∃ z, nms[i]? = some z ∧ x = .str z := by
          have q := hx
          rw [List.getElem?_map] at q
          cases e : nms[i]? with
          | none =>
            rw [e] at q
            cases q
          | some z =>
            rw [e] at q
            exact ⟨z, rfl, (Option.some.inj q).symm⟩
        obtain ⟨z, hz, rfl⟩ := hnx
        have hzn := (hnm8.nm z (List.mem_of_getElem? hz)).1
        refine ⟨_, rfl, _, rfl, _, rfl, p, 5, n + 203 + 20 * i, rfl, hp9, by decide, by decide, by omega, fun r10 H10 r100 r101 hp10 o10 => ?_⟩
        refine ⟨_, _, rfl, rfl, _, rfl, by show 3 ≤ sizeLine; decide, fun u' nu' => ?_⟩
        have t10 := same_new (o := .lst [.int (1 + r10), .int 5, .int 3]) nu'
        have nu'p := hp10.ne nu'
        refine ⟨p, u', _, _, rfl, hp10.same t10, by omega, upd_same, nu'p, (by show 1 ≤ 3; decide), (by show 3 ≤ 1000; decide), fun x H11 hx hp11 o11 => ?_⟩
        obtain ⟨m, rfl, m1, m5⟩ : ∃ m : Nat, x = .int (m : Int) ∧ 1 ≤ m ∧ m ≤ 5 := by
          have hx2 : x = .int (1 + r10) ∨ x = .int 5 ∨ x = .int 3 := by simpa using hx
          rcases hx2 with rfl | rfl | rfl
          · exact ⟨(1 + r10).toNat, by rw [Int.toNat_of_nonneg (by omega)], by omega, by omega⟩
          · exact ⟨5, rfl, by decide, by decide⟩
          · exact ⟨3, rfl, by decide, by decide⟩
        refine ⟨(m : Int), rfl, by omega, by omega, fun D nD => ?_⟩
        have em : (m : Int).toNat = m := Int.toNat_natCast m
        rw [em]
        have o911 := (o10.trans (Same.off t10)).trans o11
        have nDp := hp11.ne nD
        have D11 := D9.same (off2 (l := lk) o911)
        have ra11 := ra9.same (off2 (l := lk) o911)
        have hlk11 := o911 _ _ hlk9 nlkp
        have hlnm11 := o911 _ _ hlnm9 nlnmp
        have oH11 := o9.trans o911
        refine lc_range (lo := 0) (n := m) (fun j H' => Off p H11 H' ∧ SrcAt H' p (n + 203 + 20 * i + 2 + j) ∧ ∃ es : List Str, H' D = some (.lst (es.map V.str)) ∧ es.length = j ∧ ∀ x ∈ es, x ∈ rows.map (·.1)) ⟨Same.off (same_new nD), ((hp11.same (same_new nD)).mono (by omega)), [], upd_same, rfl, fun _ z => nomatch z⟩ ?_ ?_
        · rintro j H12 hj ⟨o12, hp12, es, hD12, le, hes⟩
          refine ⟨rfl, ?_⟩
          show tOp (rIxT K) (tCall spOne [] E0 (tCons (tVar 0) (tCons (tVar 7) tNil))) (tC (.int 0)) _ _ _
          have D12 := D11.same (off2 (l := lk) o12)
          obtain ⟨xs12, hx12, lx12, ra12⟩ := dt_list D12
          have nlxp : lx ≠ p := fun z => by
            rw [z] at hx12
            have q := del_sub _ _ hx12
            rw [del_same] at q
            cases q
          have hlx12 := del_sub _ _ (del_sub _ _ hx12)
          have lenx : xs12.length = rows.length := by rw [ra12.len, List.length_map]
          refine ⟨_, rfl, _, rfl, p, lx, xs12, _, rfl, hp12, by omega, hlx12, nlxp, by omega, by omega, fun y H13 hy hp13 o13 => ?_⟩
          obtain ⟨q, r, hr_, rfl, eq_⟩ := row_mem ra12 hy
          have nqp : q ≠ p := fun z => by
            rw [z] at eq_
            have q := del_sub _ _ eq_
            rw [del_same] at q
            cases q
          have hq13 := o13 _ _ (del_sub _ _ (del_sub _ _ eq_)) nqp
          refine ⟨q, _, 0, _, rfl, rfl, SqT.of hq13, ix0, ?_⟩
          have hD13 := o13 _ _ hD12 nDp
          refine ⟨_, hD13, ?_, (o12.trans o13).upd0 nD, ((hp13.upd nDp).mono (by omega)), es ++ [r.1], ?_, ?_, ?_⟩
          · rw [List.length_map]
            exact small1000 (by omega)
          · rw [upd_same, List.map_append]
            rfl
          · rw [List.length_append, le]
            rfl
          · intro x hx
            rcases List.mem_append.mp hx with h | h
            · exact hes x h
            · rw [List.mem_singleton.mp h]
              exact List.mem_map_of_mem (f := (·.1)) hr_
        · rintro H12 ⟨o12, hp12, es, hD12, le, hes⟩
          have hlk12 := o12 _ _ hlk11 nlkp
          refine ⟨_, rfl, .inl ⟨rfl, _, SqL.of hlk12⟩, _, rfl, _, rfl, D, es, rfl, SqL.of hD12, by omega, fun ys q pm so nq => ?_⟩
          have t1 := same_new (o := .lst (ys.map V.str)) nq
          refine ⟨q, _, rfl, .inl ⟨SqL.of upd_same, fun t nt => ?_⟩⟩
          have t2 := same_new (o := .tup (ys.map V.str)) nt
          refine ⟨by show 2 ≤ sizeLine; decide, fun k nk => ?_⟩
          have t3 := same_new (o := .tup [.str z, .ref t]) nk
          have tA := (t1.trans t2).trans t3
          have lys : ys.length = m := by rw [pm.length_eq, le]
          have kys : ∀ x ∈ ys, nameS x = true ∧ x ∈ rows.map (·.1) := fun x hx => by
            have h1 := hes x (pm.mem_iff.mp hx)
            obtain ⟨r, hr_, e⟩ := List.mem_map.mp h1
            exact ⟨by rw [← e]; exact (gN_ r hr_).1, h1⟩
          have nkp := (hp12.same (t1.trans t2)).ne nk
          have ntp := (hp12.same t1).ne nt
          have hlkA := tA _ _ hlk12
          have nklk : k ≠ lk := fun z => by
            have q := (t1.trans t2) _ _ hlk12
            rw [← z, nk] at q
            cases q
          have ntlk : t ≠ lk := fun z => by
            have q := t1 _ _ hlk12
            rw [← z, nt] at q
            cases q
          have ek : upd (upd (upd H12 q (.lst (ys.map V.str))) t (.tup (ys.map V.str))) k (.tup [.str z, .ref t]) k = some (.tup [.str z, .ref t]) := upd_same
          have et := t3 _ _ (upd_same (H := upd H12 q (.lst (ys.map V.str))) (a := t) (o := .tup (ys.map V.str)))
          generalize upd (upd (upd H12 q (.lst (ys.map V.str))) t (.tup (ys.map V.str))) k (.tup [.str z, .ref t]) = H13 at tA hlkA ek et ⊢
          have dk : Dt (del2 H13 p lk) (.ref k) (kindT (z, ys)) := by
            refine .tup (xs := [.str z, .ref t]) ?_ (by show 2 ≤ 1000; decide) (.cons (.str z (okS_name hzn)) (.cons (dt_strs (ys := ys) ?_ (by omega) fun x hx => (kys x hx).1) .nil))
            · show del2 H13 p lk k = _
              unfold del2
              rw [del_ne nklk, del_ne nkp, ek]
            · show del2 H13 p lk t = _
              unfold del2
              rw [del_ne ntlk, del_ne ntp, et]
          have oB := (oH11.trans o12).trans (Same.off tA)
          refine ⟨lk, vs, .ref k, rfl, rfl, hlkA, ?_, ?_⟩
          · have q := congrArg List.length km
            rw [List.length_map, List.length_take] at q
            have q2 := ra9.len
            rw [List.length_map] at q2
            exact small1000 (by omega)
          · refine ⟨_, _, _, ks ++ [(z, ys)], _, rfl, oB.upd0 lk0, ((hp12.same tA).upd nlkp).mono (by omega), ?_, upd_same, ?_, ?_, ?_, ?_⟩
            · rw [upd_ne nlkl]
              exact tA _ _ (o12 _ _ hlnm11 nlnmp)
            · exact D11.same (((off2 (l := lk) o12).trans (off2 (Same.off tA))).trans del2_upd)
            · rw [List.map_append]
              exact ((ra11.same (((off2 (l := lk) o12).trans (off2 (Same.off tA))).trans del2_upd))).app (.cons (dk.same del2_upd) .nil)
            · rw [List.map_append, km, List.take_add_one, hz]
              rfl
            · intro k' hk'
              rcases List.mem_append.mp hk' with h | h
              · exact hks k' h
              · rw [List.mem_singleton.mp h]
                exact ⟨by show 1 ≤ ys.length; omega, by show ys.length ≤ 5; omega, kys, so⟩
      · rintro σ H9 ⟨y9, y10, y11, ks, vs, rfl, o9, hp9, hlnm9, hlk9, D9, ra9, km, hks⟩
        rw [List.length_map, l8] at hp9
        rw [List.length_map, List.take_of_length_le (Nat.le_refl _)] at km
        have lks : ks.length = 1 + a4 := by
          have q := congrArg List.length km
          rw [List.length_map, l8] at q
          exact q
        have gK : GoodK (rows.map (·.1)) ks := ⟨by rw [km]; exact hnm8.nd, fun k hk => (hnm8.nm k.1 (by rw [← km]; exact List.mem_map_of_mem (f := (·.1)) hk)).1, hks⟩
        refine ⟨_, rfl, _, rfl, by show 2 ≤ sizeLine; decide, fun t nt => ?_⟩
        have t1 := same_new (o := .tup [.ref lx, .ref lk]) nt
        have ntp := hp9.ne nt
        have lvs : vs.length ≤ 1000 := by
          have q2 := ra9.len
          rw [List.length_map] at q2
          omega
        refine k t lx lk rows ks _ gd gK (by omega) (by omega) (by rw [del_ne ntp]; exact upd_same) ?_ ?_ ((hp9.same t1).mono (by omega)) (o9.trans (Same.off t1))
        · exact D9.same (del_sub.trans (same_del t1))
        · refine .lst (xs := vs) ?_ lvs (ra9.same (del_sub.trans (same_del t1)))
          rw [del_ne nlkp]
          exact t1 _ _ hlk9
end
end Toy
set_option Elab.async false
set_option linter.all false
set_option maxRecDepth 100000
set_option maxHeartbeats 4000000
namespace Toy
open PySem PySem.Spec PyProof.Rows L2
/-! ### one value, one datum -/
mutual
theorem Dt.fn {H : Hp} : ∀ {v : V} {d e : PyData}, Dt H v d → Dt H v e → d = e
  | _, _, _, .non, h => by cases h; rfl
  | _, _, _, .bl b, h => by cases h; rfl
  | _, _, _, .int i, h => by cases h; rfl
  | _, _, _, .str x _, h => by cases h; rfl
  | _, _, _, .lst e l r, h => by
    cases h with
    | lst e2 _ r2 =>
      rw [e] at e2
      cases e2
      rw [DtAll.fn r r2]
    | tup e2 _ _ =>
      rw [e] at e2
      cases e2
    | dct e2 =>
      rw [e] at e2
      cases e2
  | _, _, _, .tup e l r, h => by
    cases h with
    | tup e2 _ r2 =>
      rw [e] at e2
      cases e2
      rw [DtAll.fn r r2]
    | lst e2 _ _ =>
      rw [e] at e2
      cases e2
    | dct e2 =>
      rw [e] at e2
      cases e2
  | _, _, _, .dct e, h => by
    cases h with
    | dct e2 => rfl
    | lst e2 _ _ =>
      rw [e] at e2
      cases e2
    | tup e2 _ _ =>
      rw [e] at e2
      cases e2
theorem DtAll.fn {H : Hp} : ∀ {vs : List V} {ds es : List PyData}, DtAll H vs ds → DtAll H vs es → ds = es
  | _, _, _, .nil, h => by cases h; rfl
  | _, _, _, .cons h t, g => by
    cases g with
    | cons h2 t2 => rw [Dt.fn h h2, DtAll.fn t t2]
end
mutual
theorem Dt.sans {H : Hp} {l : Addr} {D : PyData} (hl : Dt H (.ref l) D) : ∀ {v : V} {d : PyData}, Dt H v d → sizeOf d < sizeOf D → Dt (del H l) v d
  | _, _, .non, _ => .non
  | _, _, .bl b, _ => .bl b
  | _, _, .int i, _ => .int i
  | _, _, .str x h, _ => .str x h
  | _, _, .lst (a := a) (ds := ds) e n r, s => by
    have q : a ≠ l := fun z => by
      rw [← z] at hl
      rw [Dt.fn hl (.lst e n r)] at s
      exact Nat.lt_irrefl _ s
    exact .lst (by rw [del_ne q]; exact e) n (DtAll.sans hl r (by simp only [PyData.list.sizeOf_spec] at s; omega))
  | _, _, .tup (a := a) (ds := ds) e n r, s => by
    have q : a ≠ l := fun z => by
      rw [← z] at hl
      rw [Dt.fn hl (.tup e n r)] at s
      exact Nat.lt_irrefl _ s
    exact .tup (by rw [del_ne q]; exact e) n (DtAll.sans hl r (by simp only [PyData.tuple.sizeOf_spec] at s; omega))
  | _, _, .dct (a := a) e, s => by
    have q : a ≠ l := fun z => by
      rw [← z] at hl
      rw [Dt.fn hl (.dct e)] at s
      exact Nat.lt_irrefl _ s
    exact .dct (by rw [del_ne q]; exact e)
theorem DtAll.sans {H : Hp} {l : Addr} {D : PyData} (hl : Dt H (.ref l) D) : ∀ {vs : List V} {ds : List PyData}, DtAll H vs ds → sizeOf ds < sizeOf D → DtAll (del H l) vs ds
  | _, _, .nil, _ => .nil
  | _, _, .cons h t, s => by
    simp only [List.cons.sizeOf_spec] at s
    exact .cons (Dt.sans hl h (by omega)) (DtAll.sans hl t (by omega))
end
theorem Dt.items {H : Hp} {l : Addr} {ds : List PyData} {vs : List V} (hl : Dt H (.ref l) (.list ds)) (r : DtAll H vs ds) : DtAll (del H l) vs ds := DtAll.sans hl r (by simp only [PyData.list.sizeOf_spec]; omega)
/-! ### expressions that make data, beside a source -/
def Ev (p : Addr) (σ : L2.St) (H0 : Hp) (c : Nat) (te : TE) (D : PyData → Prop) : Prop :=
  ∀ (H : Hp) (n : Nat) (Q : VK), Off p H0 H → SrcAt H p n → n + c ≤ 50000 → (∀ v d H', D d → Dt (del H' p) v d → Off p H H' → SrcAt H' p (n + c) → Q v H') → te σ H Q
def Evs (p : Addr) (σ : L2.St) (H0 : Hp) (c : Nat) (ts : TA) (DL : List PyData → Prop) : Prop :=
  ∀ (H : Hp) (n : Nat) (Q : List V → Hp → Prop), Off p H0 H → SrcAt H p n → n + c ≤ 50000 → (∀ vs ds H', DL ds → DtAll (del H' p) vs ds → Off p H H' → SrcAt H' p (n + c) → Q vs H') → ts σ H Q
section
variable {p : Addr} {σ : L2.St} {H0 : Hp}
theorem Ev.mono {c c' : Nat} {te : TE} {D D' : PyData → Prop} (h : Ev p σ H0 c te D) (hc : c ≤ c') (hd : ∀ d, D d → D' d) : Ev p σ H0 c' te D' := fun H n Q o hp hn k =>
  h H n Q o hp (by omega) fun v d H' hD dt o' hp' => k v d H' (hd d hD) dt o' (hp'.mono (by omega))
theorem Ev.con {v : V} {d : PyData} (h : ∀ H, Dt H v d) : Ev p σ H0 0 (tC v) (· = d) := fun H n Q o hp hn k => k v d H rfl (h _) (Off.refl _ _) hp
theorem Ev.var {i : Nat} {v : V} {d : PyData} (hi : σ[i]? = some (some v)) (h : Dt (del H0 p) v d) : Ev p σ H0 0 (tVar i) (· = d) := fun H n Q o hp hn k => ⟨v, hi, k v d H rfl (h.same (off_same o)) (Off.refl _ _) hp⟩
theorem Evs.nil : Evs p σ H0 0 tNil (· = []) := fun H n Q o hp hn k => k [] [] H rfl .nil (Off.refl _ _) hp
theorem Evs.cons {c c' : Nat} {ta : TE} {tr : TA} {D : PyData → Prop} {DL : List PyData → Prop} (h : Ev p σ H0 c ta D) (ht : Evs p σ H0 c' tr DL) : Evs p σ H0 (c + c') (tCons ta tr) (fun l => ∃ d ds, l = d :: ds ∧ D d ∧ DL ds) := fun H n Q o hp hn k =>
  h H n _ o hp (by omega) fun v d H1 hD dt o1 hp1 => ht H1 (n + c) _ (o.trans o1) hp1 (by omega) fun vs ds H2 hL dl o2 hp2 => k (v :: vs) (d :: ds) H2 ⟨d, ds, rfl, hD, hL⟩ (.cons (dt.same (off_same o2)) dl) (o1.trans o2) (hp2.mono (by omega))
theorem Evs.mono {c c' : Nat} {te : TA} {D D' : List PyData → Prop} (h : Evs p σ H0 c te D) (hc : c ≤ c') (hd : ∀ d, D d → D' d) : Evs p σ H0 c' te D' := fun H n Q o hp hn k =>
  h H n Q o hp (by omega) fun v d H' hD dt o' hp' => k v d H' (hd d hD) dt o' (hp'.mono (by omega))
theorem Ev.tup {c : Nat} {ts : TA} {DL : List PyData → Prop} (h : Evs p σ H0 c ts DL) (hl : ∀ ds, DL ds → ds.length ≤ 1000) : Ev p σ H0 c (tTup ts) (fun d => ∃ ds, d = .tuple ds ∧ DL ds) := fun H n Q o hp hn k =>
  h H n _ o hp hn fun vs ds H1 hL dl o1 hp1 => by
    have l1 : vs.length ≤ 1000 := by
      rw [dl.len]
      exact hl ds hL
    refine ⟨Nat.le_trans l1 (by decide), fun q nq => ?_⟩
    obtain ⟨s, e, hp2, o2⟩ := fresh (o := .tup vs) hp1 nq
    exact k _ _ _ ⟨ds, rfl, hL⟩ (.tup e l1 (dl.same s)) (o1.trans o2) hp2
theorem Ev.lst {c : Nat} {ts : TA} {DL : List PyData → Prop} (h : Evs p σ H0 c ts DL) (hl : ∀ ds, DL ds → ds.length ≤ 1000) : Ev p σ H0 c (tLst ts) (fun d => ∃ ds, d = .list ds ∧ DL ds) := fun H n Q o hp hn k =>
  h H n _ o hp hn fun vs ds H1 hL dl o1 hp1 => by
    have l1 : vs.length ≤ 1000 := by
      rw [dl.len]
      exact hl ds hL
    refine ⟨Nat.le_trans l1 (by decide), fun q nq => ?_⟩
    obtain ⟨s, e, hp2, o2⟩ := fresh (o := .lst vs) hp1 nq
    exact k _ _ _ ⟨ds, rfl, hL⟩ (.lst e l1 (dl.same s)) (o1.trans o2) hp2
theorem Ev.dct : Ev p σ H0 0 tDNewK (· = .dict []) := fun H n Q o hp hn k => fun q nq => by
  obtain ⟨s, e, hp2, o2⟩ := fresh (o := .dK []) hp nq
  exact k _ _ _ rfl (.dct e) o2 hp2
theorem Ev.cat {c c' : Nat} {ta tb : TE} {A B : PyData → Prop} {k m : Nat} (ha : Ev p σ H0 c ta A) (hb : Ev p σ H0 c' tb B) (la : ∀ d, A d → ∃ ds, d = .list ds ∧ ds.length ≤ k) (lb : ∀ d, B d → ∃ ds, d = .list ds ∧ ds.length ≤ m) (hkm : k + m ≤ 1000) :
    Ev p σ H0 (c + c') (tOp rCat ta tb) (fun d => ∃ ds es, d = .list (ds ++ es) ∧ A (.list ds) ∧ B (.list es)) := fun H n Q o hp hn K =>
  ha H n _ o hp (by omega) fun v d H1 hA dt o1 hp1 => hb H1 (n + c) _ (o.trans o1) hp1 (by omega) fun w e H2 hB et o2 hp2 => by
    obtain ⟨ds, rfl, l1⟩ := la d hA
    obtain ⟨es, rfl, l2⟩ := lb e hB
    cases dt with
    | lst e1 n1 r1 =>
      cases et with
      | lst e2 n2 r2 =>
        have q1 := off_same o2 _ _ e1
        have k1 := r1.len
        have k2 := r2.len
        refine ⟨_, _, _, _, rfl, rfl, del_sub _ _ q1, del_sub _ _ e2, Nat.le_trans (by omega : _ ≤ 1000) (by decide), fun q nq => ?_⟩
        obtain ⟨s, e, hp3, o3⟩ := fresh (o := .lst (_ ++ _)) hp2 nq
        exact K _ _ _ ⟨ds, es, rfl, hA, hB⟩ (.lst e (by rw [List.length_append]; omega) (((r1.same (off_same o2)).same s).app (r2.same s))) ((o1.trans o2).trans o3) (hp3.mono (by omega))
/-- all of a list's things are so -/
theorem Evs.allB {c : Nat} {ts : TA} {DL : List PyData → Prop} {B : PyData → Prop} (h : Evs p σ H0 c ts DL) (hb : ∀ ds, DL ds → ∀ d ∈ ds, B d) (hn : ∀ ds, DL ds → 1 ≤ ds.length ∧ ds.length ≤ 900) : Evs p σ H0 c ts (fun ds => (∀ d ∈ ds, B d) ∧ 1 ≤ ds.length ∧ ds.length ≤ 900) :=
  h.mono (Nat.le_refl _) fun ds hd => ⟨hb ds hd, hn ds hd⟩
/-- the things of a menu -/
def Menu (B : PyData → Prop) (d : PyData) : Prop := ∃ ds, d = .list ds ∧ (∀ e ∈ ds, B e) ∧ 1 ≤ ds.length ∧ ds.length ≤ 900
/-- one of a menu -/
theorem Ev.one {c i : Nat} {te : TE} {B : PyData → Prop} (h0 : σ[i]? = some (some (.ref p))) (h : Ev p σ H0 c te (Menu B)) : Ev p σ H0 (c + 1) (tCall spOne [] E0 (tCons (tVar i) (tCons te tNil))) B := fun H n Q o hp hn K =>
  ⟨_, h0, h H n _ o hp (by omega) fun v d H1 hD dt o1 hp1 => by
    obtain ⟨ds, rfl, hB, h1, h9⟩ := hD
    cases dt with
    | lst e n1 r =>
      rename_i q xs
      have nqp : q ≠ p := fun z => by
        rw [z, del_same] at e
        cases e
      have k1 := r.len
      refine ⟨p, q, xs, _, rfl, hp1, by omega, del_sub _ _ e, nqp, by omega, by omega, fun y H2 hy hp2 o2 => ?_⟩
      obtain ⟨j, hj⟩ := List.mem_iff_getElem?.mp hy
      obtain ⟨d, hd, hdt⟩ := r.at_ hj
      exact K y d H2 (hB d (List.mem_of_getElem? hd)) (hdt.same (off_same o2)) (o1.trans o2) hp2⟩
def All (k : Nat) (B : PyData → Prop) (ds : List PyData) : Prop := (∀ d ∈ ds, B d) ∧ ds.length = k
theorem Evs.ball0 {B : PyData → Prop} : Evs p σ H0 0 tNil (All 0 B) := Evs.nil.mono (Nat.le_refl _) fun d h => by
  rw [h]
  exact ⟨(fun _ z => nomatch z), rfl⟩
theorem Evs.ball {c c' k : Nat} {te : TE} {ts : TA} {D B : PyData → Prop} (h : Ev p σ H0 c te D) (hd : ∀ d, D d → B d) (ht : Evs p σ H0 c' ts (All k B)) : Evs p σ H0 (c + c') (tCons te ts) (All (k + 1) B) :=
  (Evs.cons h ht).mono (Nat.le_refl _) fun ds ⟨d, es, e, hD, hA⟩ => by
    rw [e]
    refine ⟨fun x hx => ?_, by rw [List.length_cons, hA.2]⟩
    rcases List.mem_cons.mp hx with z | z
    · rw [z]
      exact hd d hD
    · exact hA.1 x z
theorem Ev.menu {c k : Nat} {ts : TA} {B : PyData → Prop} (h : Evs p σ H0 c ts (All k B)) (h1 : 1 ≤ k) (h9 : k ≤ 900) : Ev p σ H0 c (tLst ts) (Menu B) :=
  (Ev.lst h fun ds hd => by have := hd.2; omega).mono (Nat.le_refl _) fun d ⟨ds, e, hA⟩ => ⟨ds, e, hA.1, by have := hA.2; omega, by have := hA.2; omega⟩
end
end Toy
set_option Elab.async false
set_option linter.all false
set_option maxRecDepth 100000
set_option maxHeartbeats 4000000
namespace Toy
open PySem PySem.Spec PyProof.Rows L2
/-! ### no list with a list of tuples in it -/
def isL : PyData → Bool
  | .list (.tuple _ :: _) => true
  | _ => false
mutual
def nl : PyData → Bool
  | .list ds => nls ds && decide ((ds.filter isL).length ≤ 0)
  | .tuple ds => nls ds
  | _ => true
def nls : List PyData → Bool
  | [] => true
  | d :: ds => nl d && nls ds
end
theorem nls_app : ∀ (a b : List PyData), nls (a ++ b) = (nls a && nls b)
  | [], b => by rw [List.nil_append, nls, Bool.true_and]
  | d :: a, b => by rw [List.cons_append, nls, nls_app a b, nls, Bool.and_assoc]
theorem nls_all {ds : List PyData} (h : ∀ d ∈ ds, nl d = true) : nls ds = true := by
  induction ds with
  | nil => rw [nls]
  | cons d ds ih => rw [nls, h d List.mem_cons_self, ih fun x hx => h x (List.mem_cons_of_mem _ hx)]; rfl
theorem nls_strs (xs : List Str) : nls (xs.map .str) = true := nls_all fun d hd => by
  obtain ⟨x, _, rfl⟩ := List.mem_map.mp hd
  rw [nl]
  all_goals intro _ z; cases z
theorem nl_row (r : Str × Str) : nl (rowT r) = true ∧ isL (rowT r) = false := by
  refine ⟨?_, rfl⟩
  show nl (.tuple [.str r.1, .str r.2]) = true
  simp [nl, nls]
theorem nl_kind (k : KRow) : nl (kindT k) = true ∧ isL (kindT k) = false := by
  refine ⟨?_, rfl⟩
  show nl (.tuple [.str k.1, .tuple (k.2.map .str)]) = true
  simp [nl, nls, nls_strs]
/-- things of which none is a list -/
structure Tups (ds : List PyData) : Prop where
  n : nls ds = true
  f : ds.filter isL = []
theorem tups_of {ds : List PyData} (h : ∀ d ∈ ds, nl d = true ∧ isL d = false) : Tups ds := ⟨nls_all fun d hd => (h d hd).1, List.filter_eq_nil_iff.mpr fun d hd => by rw [(h d hd).2]; decide⟩
theorem tups_rows (rows : Rows2) : Tups (rows.map rowT) := tups_of fun d hd => by
  obtain ⟨r, _, rfl⟩ := List.mem_map.mp hd
  exact nl_row r
theorem tups_kinds (ks : List KRow) : Tups (ks.map kindT) := tups_of fun d hd => by
  obtain ⟨r, _, rfl⟩ := List.mem_map.mp hd
  exact nl_kind r
theorem Tups.l {ds : List PyData} (h : Tups ds) : nl (.list ds) = true := by
  rw [nl, h.n, h.f]
  rfl
theorem Tups.t {ds : List PyData} (h : Tups ds) : nl (.tuple ds) = true := by rw [nl, h.n]
theorem Tups.app {a b : List PyData} (h : Tups a) (g : Tups b) : Tups (a ++ b) := ⟨by rw [nls_app, h.n, g.n]; rfl, by rw [List.filter_append, h.f, g.f]; rfl⟩
theorem Tups.take {a : List PyData} (h : ∀ d ∈ a, nl d = true ∧ isL d = false) (n : Nat) : Tups (a.take n) := tups_of fun d hd => h d (List.mem_of_mem_take hd)
theorem Tups.mid {a b : List PyData} {d : PyData} (h : Tups a) (g : Tups b) (k : nl d = true ∧ isL d = false) : nl (.list (a ++ d :: b)) = true := by
  have e : (a ++ d :: b).filter isL = [] := by
    rw [List.filter_append, h.f, List.nil_append, List.filter_cons, k.2, if_neg (by decide), g.f]
  rw [nl, nls_app, h.n, nls, k.1, g.n, e]
  rfl
mutual
theorem Dt.apart {H : Hp} {h : Addr} {D : PyData} (hd : Dt H (.ref h) D) (hD : nl D = false) : ∀ {v : V} {d : PyData}, Dt H v d → nl d = true → Dt (del H h) v d
  | _, _, .non, _ => .non
  | _, _, .bl b, _ => .bl b
  | _, _, .int i, _ => .int i
  | _, _, .str x h, _ => .str x h
  | _, _, .lst (a := a) (ds := ds) e n r, s => by
    have q : a ≠ h := fun z => by
      rw [← z] at hd
      rw [← Dt.fn hd (.lst e n r), hD] at s
      cases s
    rw [nl, Bool.and_eq_true] at s
    exact .lst (by rw [del_ne q]; exact e) n (DtAll.apart hd hD r s.1)
  | _, _, .tup (a := a) (ds := ds) e n r, s => by
    have q : a ≠ h := fun z => by
      rw [← z] at hd
      rw [← Dt.fn hd (.tup e n r), hD] at s
      cases s
    rw [nl] at s
    exact .tup (by rw [del_ne q]; exact e) n (DtAll.apart hd hD r s)
  | _, _, .dct (a := a) e, s => by
    have q : a ≠ h := fun z => by
      rw [← z] at hd
      rw [← Dt.fn hd (.dct e), hD] at s
      cases s
    exact .dct (by rw [del_ne q]; exact e)
theorem DtAll.apart {H : Hp} {h : Addr} {D : PyData} (hd : Dt H (.ref h) D) (hD : nl D = false) : ∀ {vs : List V} {ds : List PyData}, DtAll H vs ds → nls ds = true → DtAll (del H h) vs ds
  | _, _, .nil, _ => .nil
  | _, _, .cons a t, s => by
    rw [nls, Bool.and_eq_true] at s
    exact .cons (Dt.apart hd hD a s.1) (DtAll.apart hd hD t s.2)
end
theorem two_lists {rows : Rows2} (h : 1 ≤ rows.length) (d : PyData) : nl (.list [.list (rows.map rowT), d]) = false := by
  match rows, h with
  | r :: rows, _ =>
    have e : isL (.list ((r :: rows).map rowT)) = true := rfl
    have e2 : ¬ (([PyData.list ((r :: rows).map rowT), d]).filter isL).length ≤ 0 := by
      rw [List.filter_cons, e, if_pos rfl, List.length_cons]
      omega
    rw [nl, decide_eq_false e2, Bool.and_false]
end Toy
set_option Elab.async false
set_option linter.all false
set_option maxRecDepth 100000
set_option maxHeartbeats 4000000
namespace Toy
open PySem PySem.Spec PyProof.Rows L2
theorem con_s {H : Hp} (x : Str) (h : (decide (x.length ≤ 1000) && PyData.strOk x) = true) : Dt H (.str x) (.str x) := by
  rw [Bool.and_eq_true, decide_eq_true_eq] at h
  exact .str x h
def spNoName : Sp := fun vs H Q _ => ∃ (p : Addr) (n : Nat), vs = [.ref p] ∧ SrcAt H p n ∧ n + 1 ≤ 50000 ∧ ∀ v d H', nameD d = false → nl d = true → Dt (del H' p) v d → SrcAt H' p (n + 1) → Off p H H' → Q v H'
theorem Ev.noName {p : Addr} {σ : L2.St} {H0 : Hp} {i : Nat} (h0 : σ[i]? = some (some (.ref p))) : Ev p σ H0 1 (tCall spNoName [] E0 (tCons (tVar i) tNil)) (fun d => nameD d = false ∧ nl d = true) := fun H n Q o hp hn K =>
  ⟨_, h0, p, n, rfl, hp, hn, fun v d H' hd hl dt hp' o' => K v d H' ⟨hd, hl⟩ dt o' hp'⟩
section
variable {P : Program} {w : World} {K : PySem.W.Frag} {mg : Str → Option Value} {base : Heap}
theorem scNoName : FnScope ["_law_source"] ["_law_source"] (defScope sNoName) := ⟨rfl, rfl, rfl, by decide +kernel, rfl, by decide +kernel, by decide +kernel⟩
theorem ok_noName {f fO : Addr} {fd fdO : FuncData} (F : Fun K "_law_no_name" "_law_no_name" sNoName f fd)
    (GO : FnOk P w K mg base CX0 2 fO fdO ["_law_source", "_law_some"] spOne) (kO : PySem.W.keepIn K (.ref fO) = true) (bO : Binds K fdO ["_law_source", "_law_some"] []) (gO : mg "_law_one" = some (.ref fO)) :
    FnOk P w K mg base CX0 3 f fd ["_law_source"] spNoName := by
  refine F.ok scNoName (fun vs H Q E h => ?_) (fun cdv A outer s H vs Q E hr h => ?_)
  · obtain ⟨p, n, rfl, _⟩ := h
    rfl
  · obtain ⟨p, n, rfl, hp, hn, k⟩ := h
    refine ⟨_, pss_one (ps_ret (pe_call GO hr (by rfl) gO kO bO .nil pass0 (pa_cons (pv 0) (pa_cons (pe_lst (pa_cons pe_str (pa_cons pe_str (pa_cons pe_str (pa_cons pe_str (pa_cons pe_str (pa_cons pe_non (pa_cons pe_int (pa_cons (pe_tup (pa_cons pe_str pa_nil)) (pa_cons (pe_lst (pa_cons pe_str pa_nil)) (pa_cons pe_str (pa_cons pe_bl (pa_cons pe_str pa_nil))))))))))))) pa_nil)))), ?_⟩
    refine Ev.one (p := p) (B := fun d => nameD d = false ∧ nl d = true) (H0 := H) (c := 0) rfl (Ev.menu (c := 0) (k := 12) (B := fun d => nameD d = false ∧ nl d = true) ?_ (by decide) (by decide)) H n _ (Off.refl _ _) hp (by omega) (fun v d H' hd dt o' hp' => k v d H' hd.1 hd.2 dt hp' o')
    exact (Evs.ball (Ev.con fun H => con_s "" (by decide +kernel)) (by rintro _ rfl; exact ⟨by decide +kernel, by simp [nl]⟩) (Evs.ball (Ev.con fun H => con_s "A" (by decide +kernel)) (by rintro _ rfl; exact ⟨by decide +kernel, by simp [nl]⟩) (Evs.ball (Ev.con fun H => con_s "a b" (by decide +kernel)) (by rintro _ rfl; exact ⟨by decide +kernel, by simp [nl]⟩) (Evs.ball (Ev.con fun H => con_s "abcdefghi" (by decide +kernel)) (by rintro _ rfl; exact ⟨by decide +kernel, by simp [nl]⟩) (Evs.ball (Ev.con fun H => con_s "a1" (by decide +kernel)) (by rintro _ rfl; exact ⟨by decide +kernel, by simp [nl]⟩) (Evs.ball (Ev.con fun H => .non) (by rintro _ rfl; exact ⟨by decide +kernel, by simp [nl]⟩) (Evs.ball (Ev.con fun H => .int 5) (by rintro _ rfl; exact ⟨by decide +kernel, by simp [nl]⟩) (Evs.ball (Ev.tup (Evs.cons (Ev.con fun H => con_s "a" (by decide +kernel)) Evs.nil) (by rintro _ ⟨_, _, rfl, _, rfl⟩; show 1 ≤ 1000; decide)) (by rintro _ ⟨_, rfl, _, _, rfl, rfl, rfl⟩; exact ⟨rfl, by simp [nl, nls, isL]⟩) (Evs.ball (Ev.lst (Evs.cons (Ev.con fun H => con_s "a" (by decide +kernel)) Evs.nil) (by rintro _ ⟨_, _, rfl, _, rfl⟩; show 1 ≤ 1000; decide)) (by rintro _ ⟨_, rfl, _, _, rfl, rfl, rfl⟩; exact ⟨rfl, by simp [nl, nls, isL]⟩) (Evs.ball (Ev.con fun H => con_s "-" (by decide +kernel)) (by rintro _ rfl; exact ⟨by decide +kernel, by simp [nl]⟩) (Evs.ball (Ev.con fun H => .bl true) (by rintro _ rfl; exact ⟨by decide +kernel, by simp [nl]⟩) (Evs.ball (Ev.con fun H => con_s "a-b" (by decide +kernel)) (by rintro _ rfl; exact ⟨by decide +kernel, by simp [nl]⟩) Evs.ball0))))))))))))
end
end Toy
set_option Elab.async false
set_option linter.all false
set_option maxRecDepth 100000
set_option maxHeartbeats 4000000
namespace Toy
open PySem PySem.Spec PyProof.Rows L2
/-! ### what is no list of sorts -/
theorem val_mem : ∀ {rows : Rows2} {x y : Str}, valV (rows.map kvOf) (Sum.inr x) = some (.str y) → (x, y) ∈ rows
  | [], _, _, h => by cases h
  | r :: rows, x, y, h => by
    rw [mutual_cons] at h
    by_cases q : r.1 = x
    · rw [if_pos q] at h
      injection h with h
      injection h with h
      rw [← q, ← h]
      exact List.mem_cons_self
    · rw [if_neg q] at h
      exact List.mem_cons_of_mem _ (val_mem h)
theorem mut_of {rows : Rows2} (h : mutualB rows = true) {r : Str × Str} (hr : r ∈ rows) : (r.2, r.1) ∈ rows := by
  unfold mutualB at h
  rw [List.all_eq_true] at h
  exact val_mem (of_decide_eq_true (h r hr))
theorem bad_mem {ds : List PyData} {d : PyData} (hd : d ∈ ds) (h : rowD d = false) : sortsD (.list ds) = false := by
  cases e : sortsD (.list ds) with
  | false => rfl
  | true =>
    have e2 : ((decide (1 ≤ ds.length) && decide (ds.length ≤ 3)) && (ds.all rowD && (decide ((ds.map rowOf).map (·.1)).Nodup && mutualB (ds.map rowOf)))) = true := e
    rw [Bool.and_eq_true, Bool.and_eq_true, Bool.and_eq_true, List.all_eq_true] at e2
    have q := e2.2.1 d hd
    rw [h] at q
    cases q
theorem bad_len {ds : List PyData} (h : 3 < ds.length) : sortsD (.list ds) = false := by
  show ((decide (1 ≤ ds.length) && decide (ds.length ≤ 3)) && _) = false
  rw [decide_eq_false (by omega : ¬ ds.length ≤ 3), Bool.and_false, Bool.false_and]
structure Cut (rows A B : Rows2) (r : Str × Str) : Prop where
  is : rows = A ++ r :: B
  good : GoodS rows
theorem Cut.no {rows A B : Rows2} {r : Str × Str} (c : Cut rows A B r) : ∀ s ∈ A ++ B, s.1 ≠ noth ∧ s.2 ≠ noth := fun s hs => c.good.no s (by
  rw [c.is]
  rcases List.mem_append.mp hs with h | h
  · exact List.mem_append_left _ h
  · exact List.mem_append_right _ (List.mem_cons_of_mem _ h))
theorem mem_mid {A B : Rows2} {s q : Str × Str} (h : s ∈ A ++ q :: B) : s = q ∨ s ∈ A ++ B := by
  rcases List.mem_append.mp h with h | h
  · exact .inr (List.mem_append_left _ h)
  · rcases List.mem_cons.mp h with h | h
    · exact .inl h
    · exact .inr (List.mem_append_right _ h)
theorem mid_mem {A B : Rows2} {s q : Str × Str} (h : s ∈ A ++ B) : s ∈ A ++ q :: B := by
  rcases List.mem_append.mp h with h | h
  · exact List.mem_append_left _ h
  · exact List.mem_append_right _ (List.mem_cons_of_mem _ h)
theorem mid_self {A B : Rows2} {q : Str × Str} : q ∈ A ++ q :: B := List.mem_append_right _ List.mem_cons_self
theorem not_mut {A B : Rows2} {q : Str × Str} (h : ¬ (mutualB (A ++ q :: B) = true)) : sortsD (.list ((A ++ q :: B).map rowT)) = false := by
  rw [sortsD_rows]
  have e : mutualB (A ++ q :: B) = false := by
    cases z : mutualB (A ++ q :: B) with
    | false => rfl
    | true => exact absurd z h
  rw [e, Bool.and_false, Bool.and_false, Bool.and_false]
theorem bad_second {rows A B : Rows2} {x y : Str} (c : Cut rows A B (x, y)) : sortsD (.list ((A ++ (x, noth) :: B).map rowT)) = false := not_mut fun h => by
  rcases mem_mid (mut_of h mid_self) with z | z
  · exact (c.good.no (x, y) (by rw [c.is]; exact mid_self)).1 (congrArg Prod.fst z).symm
  · exact (c.no _ z).1 rfl
theorem bad_first {rows A B : Rows2} {x y : Str} (c : Cut rows A B (x, y)) : sortsD (.list ((A ++ (noth, y) :: B).map rowT)) = false := not_mut fun h => by
  rcases mem_mid (mut_of h mid_self) with z | z
  · exact (c.good.no (x, y) (by rw [c.is]; exact mid_self)).2 (congrArg Prod.fst z)
  · exact (c.no _ z).2 rfl
theorem bad_self {rows A B : Rows2} {x y : Str} (c : Cut rows A B (x, y)) (ne : y ≠ x) : sortsD (.list ((A ++ (x, x) :: B).map rowT)) = false := not_mut fun h => by
  obtain ⟨_, _, _, nd, mu⟩ := good_rows c.good
  have h1 : (y, x) ∈ rows := mut_of mu (r := (x, y)) (by rw [c.is]; exact mid_self)
  rw [c.is] at h1
  have h2 : (y, x) ∈ A ++ B := by
    rcases mem_mid h1 with z | z
    · exact absurd (congrArg Prod.fst z) ne
    · exact z
  have h3 : (x, y) ∈ A ++ (x, x) :: B := mut_of h (r := (y, x)) (mid_mem h2)
  have h4 : (x, y) ∈ A ++ B := by
    rcases mem_mid h3 with z | z
    · exact absurd (congrArg Prod.snd z) ne
    · exact z
  rw [c.is, List.map_append, List.map_cons, List.nodup_append] at nd
  rcases List.mem_append.mp h4 with z | z
  · exact nd.2.2 x (List.mem_map_of_mem (f := (·.1)) z) x List.mem_cons_self rfl
  · have q := nd.2.1
    rw [List.nodup_cons] at q
    exact q.1 (List.mem_map_of_mem (f := (·.1)) z)
/-- a row put in another's place -/
def InPlace (A B : Rows2) (d : PyData) : Prop := sortsD (.list (A.map rowT ++ d :: B.map rowT)) = false
theorem place_row {A B : Rows2} {d : PyData} (h : rowD d = false) : InPlace A B d := bad_mem (List.mem_append_right _ List.mem_cons_self) h
theorem place_is {A B : Rows2} {q : Str × Str} (h : sortsD (.list ((A ++ q :: B).map rowT)) = false) : InPlace A B (rowT q) := by
  rw [List.map_append, List.map_cons] at h
  exact h
/-! ### more expressions -/
section
variable {p : Addr} {σ : L2.St} {H0 : Hp} {K : PySem.W.Frag}
theorem Ev.tupleOf {c : Nat} {te : TE} {D : PyData → Prop} (h : Ev p σ H0 c te D) (hd : ∀ d, D d → ∃ ds, d = .list ds) :
    Ev p σ H0 c (tCB (fun xs H Q => ∃ p ys, xs = [V.ref p] ∧ ((SqL K H p ys ∧ ∀ (l : Addr), H l = none → Q (V.ref l) (upd H l (HO.tup ys))) ∨ SqT K H p ys ∧ Q (V.ref p) H)) (tCons te tNil)) (fun d => ∃ ds, d = .tuple ds ∧ D (.list ds)) := fun H n Q o hp hn k =>
  h H n _ o hp hn fun v d H1 hD dt o1 hp1 => by
    obtain ⟨ds, rfl⟩ := hd d hD
    cases dt with
    | lst e n1 r =>
      refine ⟨_, _, rfl, .inl ⟨SqL.of (del_sub _ _ e), fun l nl => ?_⟩⟩
      obtain ⟨s, e2, hp2, o2⟩ := fresh (o := .tup _) hp1 nl
      exact k _ _ _ ⟨ds, rfl, hD⟩ (.tup e2 n1 (r.same s)) (o1.trans o2) hp2
theorem Ev.listOf {c : Nat} {te : TE} {D : PyData → Prop} (h : Ev p σ H0 c te D) (hd : ∀ d, D d → ∃ ds, d = .list ds ∨ d = .tuple ds) :
    Ev p σ H0 c (tCB (fun xs H Q => ∃ p ys, xs = [V.ref p] ∧ (SqL K H p ys ∨ SqT K H p ys) ∧ ∀ (l : Addr), H l = none → Q (V.ref l) (upd H l (HO.lst ys))) (tCons te tNil)) (fun d => ∃ ds, d = .list ds ∧ (D (.list ds) ∨ D (.tuple ds))) := fun H n Q o hp hn k =>
  h H n _ o hp hn fun v d H1 hD dt o1 hp1 => by
    obtain ⟨ds, rfl | rfl⟩ := hd d hD
    · cases dt with
      | lst e n1 r =>
        refine ⟨_, _, rfl, .inl (SqL.of (del_sub _ _ e)), fun l nl => ?_⟩
        obtain ⟨s, e2, hp2, o2⟩ := fresh (o := .lst _) hp1 nl
        exact k _ _ _ ⟨ds, rfl, .inl hD⟩ (.lst e2 n1 (r.same s)) (o1.trans o2) hp2
    · cases dt with
      | tup e n1 r =>
        refine ⟨_, _, rfl, .inr (SqT.of (del_sub _ _ e)), fun l nl => ?_⟩
        obtain ⟨s, e2, hp2, o2⟩ := fresh (o := .lst _) hp1 nl
        exact k _ _ _ ⟨ds, rfl, .inr hD⟩ (.lst e2 n1 (r.same s)) (o1.trans o2) hp2
/-- a list's beginning and its end -/
theorem Ev.upTo {i : Nat} {v : V} {ds : List PyData} {th : TO} {m : Nat} (hi : σ[i]? = some (some v)) (h : Dt (del H0 p) v (.list ds)) (ht : ∀ H R, R (some (m : Int)) H → th σ H R) :
    Ev p σ H0 0 (tSl (rSlL K) (tVar i) tNoPart th) (· = .list (ds.take m)) := fun H n Q o hp hn k => by
  have dt := h.same (off_same o)
  cases dt with
  | lst e n1 r =>
    refine ⟨_, hi, ht _ _ ⟨_, _, rfl, SqL.of (del_sub _ _ e), fun l nl => ?_⟩⟩
    rw [cut_to]
    obtain ⟨s, e2, hp2, o2⟩ := fresh (o := .lst _) hp nl
    exact k _ _ _ rfl (.lst e2 (by rw [List.length_take]; omega) ((r.take m).same s)) o2 hp2
theorem Ev.from_ {i : Nat} {v : V} {ds : List PyData} {tl : TO} {m : Nat} (hi : σ[i]? = some (some v)) (h : Dt (del H0 p) v (.list ds)) (hm : m ≤ ds.length) (ht : ∀ H R, R (some (m : Int)) H → tl σ H R) :
    Ev p σ H0 0 (tSl (rSlL K) (tVar i) tl tNoPart) (· = .list (ds.drop m)) := fun H n Q o hp hn k => by
  have dt := h.same (off_same o)
  cases dt with
  | lst e n1 r =>
    refine ⟨_, hi, ht _ _ ⟨_, _, rfl, SqL.of (del_sub _ _ e), fun l nl => ?_⟩⟩
    rw [cut_from _ _ (by rw [r.len]; exact hm)]
    obtain ⟨s, e2, hp2, o2⟩ := fresh (o := .lst _) hp nl
    exact k _ _ _ rfl (.lst e2 (by rw [List.length_drop]; omega) ((r.drop m).same s)) o2 hp2
theorem Ev.twice {c : Nat} {te : TE} {D : PyData → Prop} (h : Ev p σ H0 c te D) (hd : ∀ d, D d → ∃ d1, d = .list [d1]) :
    Ev p σ H0 c (tOp rRep te (tC (.int 2))) (fun d => ∃ d1, d = .list [d1, d1] ∧ D (.list [d1])) := fun H n Q o hp hn k =>
  h H n _ o hp hn fun v d H1 hD dt o1 hp1 => by
    obtain ⟨d1, rfl⟩ := hd d hD
    cases dt with
    | lst e n1 r =>
      cases r with
      | cons h1 r =>
        cases r
        refine ⟨_, _, _, rfl, rfl, del_sub _ _ e, by decide, by decide, by show 2 ≤ sizeLine; decide, fun l nl => ?_⟩
        obtain ⟨s, e2, hp2, o2⟩ := fresh (o := .lst (List.replicate (2 : Int).toNat _).flatten) hp1 nl
        exact k _ _ _ ⟨d1, rfl, hD⟩ (.lst e2 (by show 2 ≤ 1000; decide) (.cons (h1.same s) (.cons (h1.same s) .nil))) (o1.trans o2) hp2
theorem Ev.asg {c i n : Nat} {te : TE} {D : PyData → Prop} {rest : TS} {E : Ends} {H : Hp} (h : Ev p σ H0 c te D) (o : Off p H0 H) (hp : SrcAt H p n) (hn : n + c ≤ 50000)
    (k : ∀ v d H', D d → Dt (del H' p) v d → Off p H H' → SrcAt H' p (n + c) → rest E (σ.set i (some v)) H') : tSeq (tAsg te (gName i)) rest E σ H :=
  h H n _ o hp hn fun v d H' hd dt o' hp' => k v d H' hd dt o' hp'
theorem Ev.ret {c n : Nat} {te : TE} {D : PyData → Prop} {E : Ends} {H : Hp} (h : Ev p σ H0 c te D) (o : Off p H0 H) (hp : SrcAt H p n) (hn : n + c ≤ 50000)
    (k : ∀ v d H', D d → Dt (del H' p) v d → Off p H H' → SrcAt H' p (n + c) → E.rt v H') : tRet te E σ H :=
  h H n _ o hp hn fun v d H' hd dt o' hp' => k v d H' hd dt o' hp'
/-- the same, where what is made is new -/
def EvF (p : Addr) (σ : L2.St) (H0 : Hp) (c : Nat) (te : TE) (D : PyData → Prop) : Prop :=
  ∀ (H : Hp) (n : Nat) (Q : VK), Off p H0 H → SrcAt H p n → n + c ≤ 50000 → (∀ a d H', D d → Dt (del H' p) (.ref a) d → H a = none → Off p H H' → SrcAt H' p (n + c) → Q (.ref a) H') → te σ H Q
theorem EvF.asg {c i n : Nat} {te : TE} {D : PyData → Prop} {rest : TS} {E : Ends} {H : Hp} (h : EvF p σ H0 c te D) (o : Off p H0 H) (hp : SrcAt H p n) (hn : n + c ≤ 50000)
    (k : ∀ a d H', D d → Dt (del H' p) (.ref a) d → H a = none → Off p H H' → SrcAt H' p (n + c) → rest E (σ.set i (some (.ref a))) H') : tSeq (tAsg te (gName i)) rest E σ H :=
  h H n _ o hp hn fun v d H' hd dt e o' hp' => k v d H' hd dt e o' hp'
theorem EvF.lst {c : Nat} {ts : TA} {DL : List PyData → Prop} (h : Evs p σ H0 c ts DL) (hl : ∀ ds, DL ds → ds.length ≤ 1000) : EvF p σ H0 c (tLst ts) (fun d => ∃ ds, d = .list ds ∧ DL ds) := fun H n Q o hp hn k =>
  h H n _ o hp hn fun vs ds H1 hL dl o1 hp1 => by
    have l1 : vs.length ≤ 1000 := by
      rw [dl.len]
      exact hl ds hL
    refine ⟨Nat.le_trans l1 (by decide), fun q nq => ?_⟩
    obtain ⟨s, e, hp2, o2⟩ := fresh (o := .lst vs) hp1 nq
    exact k _ _ _ ⟨ds, rfl, hL⟩ (.lst e l1 (dl.same s)) (o1.free hp1 nq) (o1.trans o2) hp2
theorem EvF.cat {c c' : Nat} {ta tb : TE} {A B : PyData → Prop} {k m : Nat} (ha : Ev p σ H0 c ta A) (hb : Ev p σ H0 c' tb B) (la : ∀ d, A d → ∃ ds, d = .list ds ∧ ds.length ≤ k) (lb : ∀ d, B d → ∃ ds, d = .list ds ∧ ds.length ≤ m) (hkm : k + m ≤ 1000) :
    EvF p σ H0 (c + c') (tOp rCat ta tb) (fun d => ∃ ds es, d = .list (ds ++ es) ∧ A (.list ds) ∧ B (.list es)) := fun H n Q o hp hn K =>
  ha H n _ o hp (by omega) fun v d H1 hA dt o1 hp1 => hb H1 (n + c) _ (o.trans o1) hp1 (by omega) fun w e H2 hB et o2 hp2 => by
    obtain ⟨ds, rfl, l1⟩ := la d hA
    obtain ⟨es, rfl, l2⟩ := lb e hB
    cases dt with
    | lst e1 n1 r1 =>
      cases et with
      | lst e2 n2 r2 =>
        have q1 := off_same o2 _ _ e1
        have k1 := r1.len
        have k2 := r2.len
        refine ⟨_, _, _, _, rfl, rfl, del_sub _ _ q1, del_sub _ _ e2, Nat.le_trans (by omega : _ ≤ 1000) (by decide), fun q nq => ?_⟩
        obtain ⟨s, e, hp3, o3⟩ := fresh (o := .lst (_ ++ _)) hp2 nq
        exact K _ _ _ ⟨ds, es, rfl, hA, hB⟩ (.lst e (by rw [List.length_append]; omega) (((r1.same (off_same o2)).same s).app (r2.same s))) ((o1.trans o2).free hp2 nq) ((o1.trans o2).trans o3) (hp3.mono (by omega))
theorem EvF.listOf {c : Nat} {te : TE} {D : PyData → Prop} (h : Ev p σ H0 c te D) (hd : ∀ d, D d → ∃ ds, d = .list ds) :
    EvF p σ H0 c (tCB (fun xs H Q => ∃ p ys, xs = [V.ref p] ∧ (SqL K H p ys ∨ SqT K H p ys) ∧ ∀ (l : Addr), H l = none → Q (V.ref l) (upd H l (HO.lst ys))) (tCons te tNil)) D := fun H n Q o hp hn k =>
  h H n _ o hp hn fun v d H1 hD dt o1 hp1 => by
    obtain ⟨ds, rfl⟩ := hd d hD
    cases dt with
    | lst e n1 r =>
      refine ⟨_, _, rfl, .inl (SqL.of (del_sub _ _ e)), fun l nl => ?_⟩
      obtain ⟨s, e2, hp2, o2⟩ := fresh (o := .lst _) hp1 nl
      exact k _ _ _ hD (.lst e2 n1 (r.same s)) (o1.free hp1 nl) (o1.trans o2) hp2
def MenuN (k : Nat) (B : PyData → Prop) (d : PyData) : Prop := ∃ ds, d = .list ds ∧ All k B ds
theorem Ev.menuN {c k : Nat} {ts : TA} {B : PyData → Prop} (h : Evs p σ H0 c ts (All k B)) (h9 : k ≤ 900) : Ev p σ H0 c (tLst ts) (MenuN k B) :=
  Ev.lst h fun ds hd => by have := hd.2; omega
theorem dt_append {H : Hp} {l : Addr} {vs : List V} {ds : List PyData} {v : V} {d : PyData} (h : Dt (del H p) (.ref l) (.list ds)) (e : H l = some (.lst vs)) (nl : l ≠ p) (ht : Dt (del2 H p l) v d) (hl : ds.length < 1000) :
    Dt (del (upd H l (.lst (vs ++ [v]))) p) (.ref l) (.list (ds ++ [d])) := by
  cases h with
  | lst e1 n1 r =>
    rename_i xs
    have q := del_sub _ _ e1
    rw [e] at q
    cases q
    have r2 := Dt.items (.lst e1 n1 r) r
    refine .lst (xs := vs ++ [v]) (by rw [del_ne nl]; exact upd_same) (by rw [List.length_append, r.len]; show ds.length + 1 ≤ 1000; omega) ?_
    exact (r2.same (del2_upd.trans del_sub)).app (.cons (ht.same (del2_upd.trans del_sub)) .nil)
theorem row_at {H : Hp} {xs : List V} {rows : Rows2} (r : DtAll H xs (rows.map rowT)) {i : Nat} (h : i < xs.length) : ∃ q r, rows[i]? = some r ∧ xs[i]? = some (.ref q) ∧ H q = some (.tup [.str r.1, .str r.2]) := by
  obtain ⟨d, hd, hx⟩ := r.at_ (List.getElem?_eq_getElem h)
  rw [List.getElem?_map] at hd
  cases e : rows[i]? with
  | none =>
    rw [e] at hd
    cases hd
  | some r =>
    rw [e] at hd
    cases hd
    generalize ez : xs[i] = z at hx
    cases hx with
    | tup e1 _ l =>
      cases l with
      | cons h1 l =>
        cases l with
        | cons h2 l =>
          cases l
          cases h1
          cases h2
          exact ⟨_, r, rfl, by rw [List.getElem?_eq_getElem h, ez], e1⟩
theorem cut_at {rows : Rows2} {i : Nat} {r : Str × Str} (h : rows[i]? = some r) : rows = rows.take i ++ r :: rows.drop (i + 1) := by
  obtain ⟨hi, e⟩ := List.getElem?_eq_some_iff.mp h
  rw [← e, ← List.drop_eq_getElem_cons hi, List.take_append_drop]
end
end Toy
set_option Elab.async false
set_option linter.all false
set_option maxRecDepth 100000
set_option maxHeartbeats 4000000
namespace Toy
open PySem PySem.Spec PyProof.Rows L2
theorem bad_nm1 (d e : PyData) (h : nameD d = false) : rowD (.tuple [d, e]) = false := by
  show (nameD d && nameD e) = false
  rw [h, Bool.false_and]
theorem bad_nm2 (d e : PyData) (h : nameD e = false) : rowD (.tuple [d, e]) = false := by
  show (nameD d && nameD e) = false
  rw [h, Bool.and_false]
theorem bad_two (d : PyData) : sortsD (.list [d, d]) = false := by
  show ((decide (1 ≤ 2) && decide (2 ≤ 3)) && (_ && (decide ([(rowOf d).1, (rowOf d).1]).Nodup && _))) = false
  rw [decide_eq_false (by simp : ¬ ([(rowOf d).1, (rowOf d).1]).Nodup), Bool.false_and, Bool.and_false, Bool.and_false]
def PlaceN (A B : Rows2) (d : PyData) : Prop := InPlace A B d ∧ nl d = true ∧ isL d = false
theorem nl_two {rows : Rows2} {d : PyData} (e : PyData.list [d] = .list ((rows.map rowT).take 1)) : nl (.list [d, d]) = true := by
  injection e with e
  have t := Tups.take (fun d hd => by obtain ⟨r, _, rfl⟩ := List.mem_map.mp hd; exact nl_row r) 1 (a := rows.map rowT)
  rw [← e] at t
  exact (t.app t).l
def spNoSorts : Sp := fun vs H Q _ => ∃ (p ls : Addr) (n : Nat) (rows : Rows2), vs = [.ref p, .ref ls] ∧ SrcAt H p n ∧ n ≤ 20000 ∧ GoodS rows ∧ Dt (del H p) (.ref ls) (.list (rows.map rowT)) ∧
  ∀ v d H', sortsD d = false → nl d = true → Dt (del H' p) v d → SrcAt H' p (n + 10) → Off p H H' → Q v H'
section
variable {P : Program} {w : World} {K : PySem.W.Frag} {mg : Str → Option Value} {base : Heap}
abbrev nsN : List Str := ["_law_source", "_law_sorts", "_law_four", "_law_at", "_law_name", "_law_partner", "_law_some"]
theorem scNoSorts : FnScope nsN ["_law_source", "_law_sorts"] (defScope sNoSorts) := ⟨rfl, rfl, rfl, by decide +kernel, rfl, by decide +kernel, by decide +kernel⟩
theorem ok_noSorts {f fN fO fX : Addr} {fd fdN fdO fdX : FuncData} (F : Fun K "_law_no_sorts" "_law_no_sorts" sNoSorts f fd) (M : Mods mg)
    (GN : FnOk P w K mg base CX0 1 fN fdN ["_law_source", "_law_many"] spNext) (kN : PySem.W.keepIn K (.ref fN) = true) (bN : Binds K fdN ["_law_source", "_law_many"] []) (gN : mg "_law_next" = some (.ref fN))
    (GO : FnOk P w K mg base CX0 2 fO fdO ["_law_source", "_law_some"] spOne) (kO : PySem.W.keepIn K (.ref fO) = true) (bO : Binds K fdO ["_law_source", "_law_some"] []) (gO : mg "_law_one" = some (.ref fO))
    (GX : FnOk P w K mg base CX0 3 fX fdX ["_law_source"] spNoName) (kX : PySem.W.keepIn K (.ref fX) = true) (bX : Binds K fdX ["_law_source"] []) (gX : mg "_law_no_name" = some (.ref fX)) :
    FnOk P w K mg base CX0 4 f fd ["_law_source", "_law_sorts"] spNoSorts := by
  refine F.ok scNoSorts (fun vs H Q E h => ?_) (fun cdv A outer s H vs Q E hrX h => ?_)
  · obtain ⟨p, ls, n, rows, rfl, _⟩ := h
    rfl
  · obtain ⟨p, ls, n, rows, rfl, hp, hn, gd, ds, k⟩ := h
    have hr2 : Room 2 (A.deeper (envOfC "_law_no_sorts" (defScope sNoSorts) s.heap.objs.size f cdv)) := hrX.mono (by decide)
    have hr1 : Room 1 (A.deeper (envOfC "_law_no_sorts" (defScope sNoSorts) s.heap.objs.size f cdv)) := hrX.mono (by decide)
    refine ⟨_, (pss_cons (ps_if (pt_cmpR op_eq (pe_call GN hr1 (by rfl) gN kN bN .nil pass0 (pa_cons (pv 0) (pa_cons pe_int pa_nil))) pe_int (nomark _)) (pss_cons (ps_set (i := 2) scNoSorts.nd rfl (Or.inl rfl) (pe_lst (pa_cons (pe_tup (pa_cons pe_str (pa_cons pe_str pa_nil))) (pa_cons (pe_tup (pa_cons pe_str (pa_cons pe_str pa_nil))) (pa_cons (pe_tup (pa_cons pe_str (pa_cons pe_str pa_nil))) (pa_cons (pe_tup (pa_cons pe_str (pa_cons pe_str pa_nil))) pa_nil))))))
      (pss_one (ps_ret (pe_call GO hr2 (by rfl) gO kO bO .nil pass0 (pa_cons (pv 0) (pa_cons (pe_lst (pa_cons pe_non (pa_cons (pe_lst pa_nil) (pa_cons (pe_callTy call_tuple_of (by rfl) M.tup_ (by decide +kernel) (pa_cons (pv 1) pa_nil)) (pa_cons pe_dnewK (pa_cons pe_str (pa_cons pe_int (pa_cons (pv 2) (pa_cons (pe_op op_rep (pe_slice sl_list (pv 1) po_none (po_some pe_int)) pe_int) pa_nil))))))))) pa_nil)))))) pss_nil)
      (pss_cons (ps_set (i := 3) scNoSorts.nd rfl (Or.inl rfl) (pe_call GN hr1 (by rfl) gN kN bN .nil pass0 (pa_cons (pv 0) (pa_cons (pe_callB call_len_seq (by rfl) M.len PySem.boot_len (pa_cons (pv 1) pa_nil)) pa_nil))))
      (pss_cons (ps_asg (pe_ix ix_list (pv 1) (pv 3) (fun _ _ => rfl)) (pg_tup rfl (pgs_cons (pg_name (i := 4) scNoSorts.nd rfl (Or.inl rfl)) (pgs_cons (pg_name (i := 5) scNoSorts.nd rfl (Or.inl rfl)) pgs_nil))))
      (pss_cons (ps_set (i := 6) scNoSorts.nd rfl (Or.inl rfl) (pe_lst (pa_cons (pe_tup (pa_cons (pv 4) pa_nil)) (pa_cons (pe_tup (pa_cons (pv 4) (pa_cons (pv 5) (pa_cons (pv 4) pa_nil)))) (pa_cons (pe_lst (pa_cons (pv 4) (pa_cons (pv 5) pa_nil))) (pa_cons (pv 4) (pa_cons pe_non (pa_cons (pe_tup (pa_cons (pv 4) (pa_cons pe_str pa_nil))) (pa_cons (pe_tup (pa_cons (pv 4) (pa_cons pe_non pa_nil))) pa_nil)))))))))
      (pss_cons (ps_set (i := 6) scNoSorts.nd rfl (Or.inl rfl) (pe_op op_cat (pv 6) (pe_lst (pa_cons (pe_tup (pa_cons (pv 4) (pa_cons (pe_call GX hrX (by rfl) gX kX bX .nil pass0 (pa_cons (pv 0) pa_nil)) pa_nil))) (pa_cons (pe_tup (pa_cons pe_str (pa_cons (pv 5) pa_nil))) (pa_cons (pe_tup (pa_cons (pe_call GX hrX (by rfl) gX kX bX .nil pass0 (pa_cons (pv 0) pa_nil)) (pa_cons (pv 5) pa_nil))) pa_nil))))))
      (pss_cons (ps_if (pt_cmpR op_ne (pv 5) (pv 4) (nomark _)) (pss_one (ps_expr (pe_bm PySem.F.plainAttrs_list PySem.F.slot_list_append PySem.F.type_list_append mt_append (pv 6) (pa_cons (pe_tup (pa_cons (pv 4) (pa_cons (pv 4) pa_nil))) pa_nil)))) pss_nil)
      (pss_one (ps_ret (pe_op op_cat (pe_op op_cat (pe_slice sl_list (pv 1) po_none (po_some (pv 3))) (pe_lst (pa_cons (pe_call GO hr2 (by rfl) gO kO bO .nil pass0 (pa_cons (pv 0) (pa_cons (pv 6) pa_nil))) pa_nil))) (pe_slice sl_list (pv 1) (po_some (pe_op op_add (pv 3) pe_int)) po_none)))))))))), ?_⟩
    obtain ⟨g1, g3, gN_, gnd, gmu⟩ := good_rows gd
    refine ⟨_, rfl, p, 3, n, rfl, hp, by decide, by decide, by omega, fun r H1 r0 r1 hp1 o1 => ?_⟩
    have ds1 := ds.same (off_same o1)
    refine ⟨rfl, _, rfl, ite2 (fun _ => ?_) (fun _ => ?_)⟩
    · refine Ev.asg (i := 2) (Ev.lst (Evs.cons (Ev.tup (Evs.cons (Ev.con fun H => con_s "aa" (by decide +kernel)) (Evs.cons (Ev.con fun H => con_s "aa" (by decide +kernel)) Evs.nil)) (by rintro _ ⟨_, _, rfl, rfl, ⟨_, _, rfl, rfl, rfl⟩⟩; show 2 ≤ 1000; decide)) (Evs.cons (Ev.tup (Evs.cons (Ev.con fun H => con_s "bb" (by decide +kernel)) (Evs.cons (Ev.con fun H => con_s "bb" (by decide +kernel)) Evs.nil)) (by rintro _ ⟨_, _, rfl, rfl, ⟨_, _, rfl, rfl, rfl⟩⟩; show 2 ≤ 1000; decide)) (Evs.cons (Ev.tup (Evs.cons (Ev.con fun H => con_s "cc" (by decide +kernel)) (Evs.cons (Ev.con fun H => con_s "cc" (by decide +kernel)) Evs.nil)) (by rintro _ ⟨_, _, rfl, rfl, ⟨_, _, rfl, rfl, rfl⟩⟩; show 2 ≤ 1000; decide)) (Evs.cons (Ev.tup (Evs.cons (Ev.con fun H => con_s "dd" (by decide +kernel)) (Evs.cons (Ev.con fun H => con_s "dd" (by decide +kernel)) Evs.nil)) (by rintro _ ⟨_, _, rfl, rfl, ⟨_, _, rfl, rfl, rfl⟩⟩; show 2 ≤ 1000; decide)) Evs.nil)))) (by rintro _ ⟨_, _, rfl, ⟨_, rfl, ⟨_, _, rfl, rfl, ⟨_, _, rfl, rfl, rfl⟩⟩⟩, ⟨_, _, rfl, ⟨_, rfl, ⟨_, _, rfl, rfl, ⟨_, _, rfl, rfl, rfl⟩⟩⟩, ⟨_, _, rfl, ⟨_, rfl, ⟨_, _, rfl, rfl, ⟨_, _, rfl, rfl, rfl⟩⟩⟩, ⟨_, _, rfl, ⟨_, rfl, ⟨_, _, rfl, rfl, ⟨_, _, rfl, rfl, rfl⟩⟩⟩, rfl⟩⟩⟩⟩; show 4 ≤ 1000; decide)) (Off.refl _ _) hp1 (by omega) ?_
      rintro v _ H2 ⟨_, rfl, ⟨_, _, rfl, ⟨_, rfl, ⟨_, _, rfl, rfl, ⟨_, _, rfl, rfl, rfl⟩⟩⟩, ⟨_, _, rfl, ⟨_, rfl, ⟨_, _, rfl, rfl, ⟨_, _, rfl, rfl, rfl⟩⟩⟩, ⟨_, _, rfl, ⟨_, rfl, ⟨_, _, rfl, rfl, ⟨_, _, rfl, rfl, rfl⟩⟩⟩, ⟨_, _, rfl, ⟨_, rfl, ⟨_, _, rfl, rfl, ⟨_, _, rfl, rfl, rfl⟩⟩⟩, rfl⟩⟩⟩⟩⟩ d2 o2 hp2
      have d1 := ds1.same (off_same o2)
      have one1 : ∃ d1, PyData.list ((rows.map rowT).take 1) = .list [d1] := by
        cases rows with
        | nil => exact absurd g1 (by decide)
        | cons r rs => exact ⟨rowT r, rfl⟩
      refine Ev.ret (Ev.one (B := fun d => sortsD d = false ∧ nl d = true) (H0 := H2) (c := 0) rfl (Ev.menu (c := 0) (k := 8) (B := fun d => sortsD d = false ∧ nl d = true) ?_ (by decide) (by decide))) (Off.refl _ _) hp2 (by omega) (fun v d H' hd dt o' hp' => k v d H' hd.1 hd.2 dt (hp'.mono (by omega)) ((o1.trans o2).trans o'))
      exact (Evs.ball (Ev.con fun H => .non) (by rintro _ rfl; exact ⟨rfl, (by simp [nl, nls, isL, nls_strs])⟩)
        (Evs.ball (Ev.lst Evs.nil (by rintro _ rfl; show 0 ≤ 1000; decide)) (by rintro _ ⟨_, rfl, rfl⟩; exact ⟨rfl, (by simp [nl, nls, isL, nls_strs])⟩)
        (Evs.ball (Ev.tupleOf (Ev.var rfl d1) (by rintro _ rfl; exact ⟨_, rfl⟩)) (by rintro _ ⟨_, rfl, ea⟩; exact ⟨rfl, (by injection ea with ea; rw [ea]; exact (tups_rows rows).t)⟩)
        (Evs.ball Ev.dct (by rintro _ rfl; exact ⟨rfl, (by simp [nl, nls, isL, nls_strs])⟩)
        (Evs.ball (Ev.con fun H => con_s "line" (by decide +kernel)) (by rintro _ rfl; exact ⟨rfl, (by simp [nl, nls, isL, nls_strs])⟩)
        (Evs.ball (Ev.con fun H => .int 0) (by rintro _ rfl; exact ⟨rfl, (by simp [nl, nls, isL, nls_strs])⟩)
        (Evs.ball (Ev.var rfl d2) (by rintro _ rfl; exact ⟨bad_len (by show 3 < 4; decide), (by simp [nl, nls, isL, nls_strs])⟩)
        (Evs.ball (Ev.twice (Ev.upTo (m := 1) rfl d1 fun H R h => ⟨1, rfl, h⟩) (by rintro _ rfl; exact one1)) (by rintro _ ⟨d1, rfl, e1⟩; exact ⟨bad_two d1, (nl_two e1)⟩)
        Evs.ball0))))))))
    · obtain ⟨xs, hls, lxs, rxs⟩ := dt_list ds1
      have lenx : xs.length = rows.length := by rw [rxs.len, List.length_map]
      have nlsp : ls ≠ p := fun z => by
        rw [z, del_same] at hls
        cases hls
      refine ⟨_, rfl, _, rfl, ls, xs, rfl, .inl (SqL.of (del_sub _ _ hls)), p, (xs.length : Int), n + 1, rfl, hp1, by omega, by omega, by omega, fun r2 H2 r20 r21 hp2 o2 => ?_⟩
      obtain ⟨at_, rfl⟩ := Int.eq_ofNat_of_zero_le r20
      have hat : at_ < xs.length := by omega
      have ds2 := ds1.same (off_same o2)
      have hls2 := off_same o2 _ _ hls
      obtain ⟨q, ⟨x, y⟩, hr_, ex, eq_⟩ := row_at (rxs.same (off_same o2)) hat
      refine ⟨_, rfl, _, rfl, ls, xs, _, _, rfl, rfl, SqL.of (del_sub _ _ hls2), at_of rfl ex, q, _, rfl, SqT.of (del_sub _ _ eq_), rfl, _, _, rfl, _, _, rfl, rfl, ?_⟩
      have cut : Cut rows (rows.take at_) (rows.drop (at_ + 1)) (x, y) := ⟨cut_at hr_, gd⟩
      have xy := gN_ (x, y) (List.mem_of_getElem? hr_)
      have d4 : Dt (del H2 p) (.str x) (.str x) := .str x (okS_name xy.1)
      have d5 : Dt (del H2 p) (.str y) (.str y) := .str y (okS_name xy.2)
      dsimp only
      refine Ev.asg (i := 6) (H0 := H2) (c := 0) (D := MenuN 7 (PlaceN (rows.take at_) (rows.drop (at_ + 1)))) (Ev.menuN ?m1 (by decide)) (Off.refl _ _) hp2 (by omega) ?_
      case m1 => exact (Evs.ball (Ev.tup (Evs.cons (Ev.var rfl d4) Evs.nil) (by rintro _ ⟨_, _, rfl, rfl, rfl⟩; show 1 ≤ 1000; decide)) (by rintro _ ⟨_, rfl, ⟨_, _, rfl, rfl, rfl⟩⟩; exact ⟨place_row rfl, ⟨(by simp [nl, nls, isL, nls_strs]), rfl⟩⟩)
        (Evs.ball (Ev.tup (Evs.cons (Ev.var rfl d4) (Evs.cons (Ev.var rfl d5) (Evs.cons (Ev.var rfl d4) Evs.nil))) (by rintro _ ⟨_, _, rfl, rfl, ⟨_, _, rfl, rfl, ⟨_, _, rfl, rfl, rfl⟩⟩⟩; show 3 ≤ 1000; decide)) (by rintro _ ⟨_, rfl, ⟨_, _, rfl, rfl, ⟨_, _, rfl, rfl, ⟨_, _, rfl, rfl, rfl⟩⟩⟩⟩; exact ⟨place_row rfl, ⟨(by simp [nl, nls, isL, nls_strs]), rfl⟩⟩)
        (Evs.ball (Ev.lst (Evs.cons (Ev.var rfl d4) (Evs.cons (Ev.var rfl d5) Evs.nil)) (by rintro _ ⟨_, _, rfl, rfl, ⟨_, _, rfl, rfl, rfl⟩⟩; show 2 ≤ 1000; decide)) (by rintro _ ⟨_, rfl, ⟨_, _, rfl, rfl, ⟨_, _, rfl, rfl, rfl⟩⟩⟩; exact ⟨place_row rfl, ⟨(by simp [nl, nls, isL, nls_strs]), rfl⟩⟩)
        (Evs.ball (Ev.var rfl d4) (by rintro _ rfl; exact ⟨place_row rfl, ⟨(by simp [nl, nls, isL, nls_strs]), rfl⟩⟩)
        (Evs.ball (Ev.con fun H => .non) (by rintro _ rfl; exact ⟨place_row rfl, ⟨(by simp [nl, nls, isL, nls_strs]), rfl⟩⟩)
        (Evs.ball (Ev.tup (Evs.cons (Ev.var rfl d4) (Evs.cons (Ev.con fun H => con_s "nothing" (by decide +kernel)) Evs.nil)) (by rintro _ ⟨_, _, rfl, rfl, ⟨_, _, rfl, rfl, rfl⟩⟩; show 2 ≤ 1000; decide)) (by rintro _ ⟨_, rfl, ⟨_, _, rfl, rfl, ⟨_, _, rfl, rfl, rfl⟩⟩⟩; exact ⟨place_is (bad_second cut), ⟨(by simp [nl, nls, isL, nls_strs]), rfl⟩⟩)
        (Evs.ball (Ev.tup (Evs.cons (Ev.var rfl d4) (Evs.cons (Ev.con fun H => .non) Evs.nil)) (by rintro _ ⟨_, _, rfl, rfl, ⟨_, _, rfl, rfl, rfl⟩⟩; show 2 ≤ 1000; decide)) (by rintro _ ⟨_, rfl, ⟨_, _, rfl, rfl, ⟨_, _, rfl, rfl, rfl⟩⟩⟩; exact ⟨place_row (bad_nm2 _ _ rfl), ⟨(by simp [nl, nls, isL, nls_strs]), rfl⟩⟩)
        Evs.ball0)))))))
      rintro v6 _ H3 ⟨ds6, rfl, hB6, hl6⟩ d6 o3 hp3
      have d4 := d4.same (off_same o3)
      have d5 := d5.same (off_same o3)
      refine EvF.asg (i := 6) (H0 := H3) (c := 2) (EvF.cat (c := 0) (c' := 2) (A := (· = .list ds6)) (B := MenuN 3 (PlaceN (rows.take at_) (rows.drop (at_ + 1)))) (k := 7) (m := 3) (Ev.var rfl d6) (Ev.menuN ?m2 (by decide)) (by rintro _ rfl; exact ⟨ds6, rfl, by omega⟩) (by rintro _ ⟨es, rfl, _, l3⟩; exact ⟨es, rfl, by omega⟩) (by decide)) (Off.refl _ _) hp3 (by omega) ?_
      case m2 => exact (Evs.ball (Ev.tup (Evs.cons (Ev.var rfl d4) (Evs.cons (Ev.noName rfl) Evs.nil)) (by rintro _ ⟨_, _, rfl, rfl, ⟨_, _, rfl, ⟨hx, hl⟩, rfl⟩⟩; show 2 ≤ 1000; decide)) (by rintro _ ⟨_, rfl, ⟨_, _, rfl, rfl, ⟨_, _, rfl, ⟨hx, hl⟩, rfl⟩⟩⟩; exact ⟨place_row (bad_nm2 _ _ hx), ⟨(by simp [nl, nls, isL, nls_strs, hl]), rfl⟩⟩)
        (Evs.ball (Ev.tup (Evs.cons (Ev.con fun H => con_s "nothing" (by decide +kernel)) (Evs.cons (Ev.var rfl d5) Evs.nil)) (by rintro _ ⟨_, _, rfl, rfl, ⟨_, _, rfl, rfl, rfl⟩⟩; show 2 ≤ 1000; decide)) (by rintro _ ⟨_, rfl, ⟨_, _, rfl, rfl, ⟨_, _, rfl, rfl, rfl⟩⟩⟩; exact ⟨place_is (bad_first cut), ⟨(by simp [nl, nls, isL, nls_strs]), rfl⟩⟩)
        (Evs.ball (Ev.tup (Evs.cons (Ev.noName rfl) (Evs.cons (Ev.var rfl d5) Evs.nil)) (by rintro _ ⟨_, _, rfl, ⟨hx, hl⟩, ⟨_, _, rfl, rfl, rfl⟩⟩; show 2 ≤ 1000; decide)) (by rintro _ ⟨_, rfl, ⟨_, _, rfl, ⟨hx, hl⟩, ⟨_, _, rfl, rfl, rfl⟩⟩⟩; exact ⟨place_row (bad_nm1 _ _ hx), ⟨(by simp [nl, nls, isL, nls_strs, hl]), rfl⟩⟩)
        Evs.ball0)))
      rintro l7 _ H4 ⟨w6, es7, rfl, e6, ⟨_, e7, hB7, hl7⟩⟩ d7 l70 o4 hp4
      injection e6 with e6
      injection e7 with e7
      subst e6 e7
      have hB : ∀ d ∈ w6 ++ es7, PlaceN (rows.take at_) (rows.drop (at_ + 1)) d := fun d hd => (List.mem_append.mp hd).elim (hB6 d) (hB7 d)
      have hlen : (w6 ++ es7).length = 10 := by rw [List.length_append, hl6, hl7]
      generalize w6 ++ es7 = ds7 at d7 hB hlen
      have nl7 : l7 ≠ p := hp3.ne l70
      have l72 : H2 l7 = none := o3.free hp3 l70
      have oH4 := o3.trans o4
      obtain ⟨xs7, h7, lx7, rx7⟩ := dt_list d7
      have lenx7 : xs7.length = 10 := by rw [rx7.len, hlen]
      refine ⟨_, rfl, _, rfl, rfl, _, rfl, ite2 (fun hne => ?_) (fun _ => ?_)⟩
      case' refine_1 =>
        have ne : y ≠ x := by
          intro z
          rw [z, decide_eq_true rfl] at hne
          cases hne
        refine ⟨_, rfl, .inl ⟨rfl, _, SqL.of (del_sub _ _ h7)⟩, _, rfl, _, rfl, by show 2 ≤ sizeLine; decide, fun t nt => ?_⟩
        obtain ⟨st, dt, hpt, ft⟩ := fresh (o := .tup [.str x, .str x]) hp4 nt
        have h7t := st _ _ h7
        refine ⟨l7, xs7, .ref t, rfl, rfl, del_sub _ _ h7t, small1000 (by omega), ?_⟩
        have nt7 : t ≠ l7 := fun z => by
          rw [z] at nt
          have q := del_sub _ _ h7
          rw [nt] at q
          cases q
        have ht : Dt (del2 (upd H4 t (.tup [.str x, .str x])) p l7) (.ref t) (rowT (x, x)) := by
          refine dt_row xy.1 xy.1 ?_
          unfold del2
          rw [del_ne nt7]
          exact dt
        have dE := dt_append (d7.same st) (del_sub _ _ h7t) nl7 ht (by omega)
        have hBE : ∀ d ∈ ds7 ++ [rowT (x, x)], PlaceN (rows.take at_) (rows.drop (at_ + 1)) d := fun d hd => (List.mem_append.mp hd).elim (hB d) fun z => by
          rw [List.mem_singleton.mp z]
          exact ⟨place_is (bad_self cut ne), nl_row _⟩
        have lE : (ds7 ++ [rowT (x, x)]).length ≤ 11 ∧ 1 ≤ (ds7 ++ [rowT (x, x)]).length := by
          rw [List.length_append, hlen]
          exact ⟨Nat.le_refl _, by show 1 ≤ 10 + 1; decide⟩
        have oE : Off p H2 (upd (upd H4 t (.tup [.str x, .str x])) l7 (.lst (xs7 ++ [.ref t]))) := (oH4.trans ft).upd0 l72
        have hpE := hpt.upd (o := .lst (xs7 ++ [.ref t])) nl7
        generalize upd (upd H4 t (.tup [.str x, .str x])) l7 (.lst (xs7 ++ [.ref t])) = HE at dE oE hpE ⊢
        generalize ds7 ++ [rowT (x, x)] = dsE at dE hBE lE
      case' refine_2 =>
        have dE := d7
        have hBE := hB
        have lE : ds7.length ≤ 11 ∧ 1 ≤ ds7.length := by omega
        have oE := oH4
        have hpE := hp4
        generalize H4 = HE at dE oE hpE ⊢
        generalize ds7 = dsE at dE hBE lE
      all_goals
        have dsE1 := ds2.same (off_same oE)
        refine Ev.ret (H0 := HE) (c := 1) (D := fun d => sortsD d = false ∧ nl d = true) (Ev.mono (c := 0 + (0 + 1 + 0) + 0) (Ev.cat (k := 500) (m := 400) (c := 0 + (0 + 1 + 0)) (c' := 0) (Ev.cat (k := 400) (m := 1) (c := 0) (c' := 0 + 1 + 0) (Ev.upTo (m := at_) rfl dsE1 fun H R h => ⟨_, rfl, _, rfl, h⟩) (Ev.lst (c := 0 + 1 + 0) (Evs.cons (Ev.one (B := PlaceN (rows.take at_) (rows.drop (at_ + 1))) rfl (Ev.mono (Ev.var rfl dE) (Nat.le_refl _) (by rintro _ rfl; exact ⟨dsE, rfl, hBE, lE.2, by omega⟩))) Evs.nil) (by rintro _ ⟨_, _, rfl, _, rfl⟩; show 1 ≤ 1000; decide)) ?c1 ?c2 (by decide)) (Ev.from_ (m := at_ + 1) rfl dsE1 ?c3 ?c4) ?c5 ?c6 (by decide)) (by decide) ?c7) (Off.refl _ _) hpE (by omega) (fun v d H' hd dt o' hp' => k v d H' hd.1 hd.2 dt (hp'.mono (by omega)) (((o1.trans o2).trans oE).trans o'))
        case c1 =>
          rintro _ rfl
          exact ⟨_, rfl, by rw [List.length_take, List.length_map]; omega⟩
        case c2 =>
          rintro _ ⟨_, rfl, _, _, rfl, _, rfl⟩
          exact ⟨_, rfl, Nat.le_refl _⟩
        case c3 =>
          rw [List.length_map]
          omega
        case c4 => exact fun H R h => ⟨_, rfl, _, _, rfl, rfl, _, rfl, h⟩
        case c5 =>
          rintro _ ⟨_, _, rfl, e, _, e2, _, _, rfl, _, rfl⟩
          injection e with e
          injection e2 with e2
          subst e e2
          exact ⟨_, rfl, by rw [List.length_append, List.length_take, List.length_map]; show _ + 1 ≤ 500; omega⟩
        case c6 =>
          rintro _ rfl
          exact ⟨_, rfl, by rw [List.length_drop, List.length_map]; omega⟩
        case c7 =>
          rintro _ ⟨_, _, rfl, ⟨_, _, ea, eb, _, ec, _, _, rfl, hb, rfl⟩, ed⟩
          injection ea with ea
          injection eb with eb
          injection ec with ec
          injection ed with ed
          subst ea eb ec ed
          rw [List.append_assoc, ← List.map_take, ← List.map_drop]
          exact ⟨hb.1, (tups_rows _).mid (tups_rows _) hb.2⟩
end
end Toy
set_option Elab.async false
set_option linter.all false
set_option maxRecDepth 100000
set_option maxHeartbeats 4000000
namespace Toy
open PySem PySem.Spec PyProof.Rows L2
theorem noth_not {rows : Rows2} (g : GoodS rows) : noth ∉ rows.map (·.1) := fun h => by
  obtain ⟨r, hr, e⟩ := List.mem_map.mp h
  exact (g.no r hr).1 e
theorem kbad_mem {keys : List Str} {ds : List PyData} {d : PyData} (hd : d ∈ ds) (h : kindD keys d = false) : kindsD keys (.list ds) = false := by
  cases e : kindsD keys (.list ds) with
  | false => rfl
  | true =>
    have e2 : ((decide (1 ≤ ds.length) && decide (ds.length ≤ 4)) && (ds.all (kindD keys) && decide (ds.map name0).Nodup)) = true := e
    rw [Bool.and_eq_true, Bool.and_eq_true, Bool.and_eq_true, List.all_eq_true] at e2
    have q := e2.2.1 d hd
    rw [h] at q
    cases q
theorem kbad_len {keys : List Str} {ds : List PyData} (h : 4 < ds.length) : kindsD keys (.list ds) = false := by
  show ((decide (1 ≤ ds.length) && decide (ds.length ≤ 4)) && _) = false
  rw [decide_eq_false (by omega : ¬ ds.length ≤ 4), Bool.and_false, Bool.false_and]
theorem kbad_twice {keys : List Str} {ks : List KRow} (h : 1 ≤ ks.length) : kindsD keys (.list (ks.map kindT ++ (ks.map kindT).take 1)) = false := by
  match ks, h with
  | k :: ks, _ =>
    have e : kindsD keys (.list ((k :: ks).map kindT ++ ((k :: ks).map kindT).take 1)) = ((decide (1 ≤ ((k :: ks).map kindT ++ ((k :: ks).map kindT).take 1).length) && decide (((k :: ks).map kindT ++ ((k :: ks).map kindT).take 1).length ≤ 4)) && ((((k :: ks).map kindT ++ ((k :: ks).map kindT).take 1).all (kindD keys)) && decide ((((k :: ks).map kindT ++ ((k :: ks).map kindT).take 1)).map name0).Nodup)) := rfl
    rw [e]
    have n : ¬ ((((k :: ks).map kindT ++ ((k :: ks).map kindT).take 1)).map name0).Nodup := by
      intro z
      show False
      have z2 : (name0 (kindT k) :: ((ks.map kindT).map name0 ++ [name0 (kindT k)])).Nodup := by
        have e2 : (((k :: ks).map kindT ++ ((k :: ks).map kindT).take 1)).map name0 = name0 (kindT k) :: ((ks.map kindT).map name0 ++ [name0 (kindT k)]) := by
          rw [List.map_cons, List.take_succ_cons, List.take_zero, List.cons_append, List.map_cons, List.map_append]
          rfl
        rw [← e2]
        exact z
      rw [List.nodup_cons] at z2
      exact z2.1 (List.mem_append_right _ List.mem_cons_self)
    rw [decide_eq_false n, Bool.and_false, Bool.and_false]
theorem kbad_e {keys : List Str} {d e : PyData} (h : endsD keys e = false) : kindD keys (.tuple [d, e]) = false := by
  show (nameD d && endsD keys e) = false
  rw [h, Bool.and_false]
theorem kbad_n {keys : List Str} {d e : PyData} (h : nameD d = false) : kindD keys (.tuple [d, e]) = false := by
  show (nameD d && endsD keys e) = false
  rw [h, Bool.false_and]
theorem ends_of {keys : List Str} {ds : List PyData} (h : endsD keys (.tuple ds) = true) : (1 ≤ ds.length ∧ ds.length ≤ 5) ∧ (∀ d ∈ ds, nameD d = true ∧ strO d ∈ keys) ∧ sortedS (ds.map strO) = true := by
  have e : ((decide (1 ≤ ds.length) && decide (ds.length ≤ 5)) && ((ds.all fun d => nameD d && decide (strO d ∈ keys)) && sortedS (ds.map strO))) = true := h
  rw [Bool.and_eq_true, Bool.and_eq_true, Bool.and_eq_true, decide_eq_true_eq, decide_eq_true_eq, List.all_eq_true] at e
  refine ⟨e.1, fun d hd => ?_, e.2.2⟩
  have q := e.2.1 d hd
  rw [Bool.and_eq_true, decide_eq_true_eq] at q
  exact q
theorem false_of {b : Bool} (h : b = true → False) : b = false := by
  cases b with
  | false => rfl
  | true => exact absurd rfl h
theorem ebad_noth {rows : Rows2} (g : GoodS rows) (ds : List PyData) : endsD (rows.map (·.1)) (.tuple (ds ++ [.str noth])) = false := false_of fun h =>
  noth_not g ((ends_of h).2.1 (.str noth) (List.mem_append_right _ List.mem_cons_self)).2
theorem ebad_long (keys : List Str) (d : PyData) : endsD keys (.tuple [d, d, d, d, d, d]) = false := false_of fun h => by
  have q := (ends_of h).1.2
  exact absurd q (by show ¬ 6 ≤ 5; decide)
theorem ebad_order {keys ys : List Str} {a b : Str} {r : List Str} (e : ys = a :: b :: r) (so : sortedS ys = true) (nd : ys.Nodup) : endsD keys (.tuple [.str b, .str a]) = false := false_of fun h => by
  have h2 : sortedS [b, a] = true := (ends_of h).2.2
  have p1 := sorted_pw so
  have p2 := sorted_pw h2
  rw [e] at p1 nd
  have q1 : a.cps.toList ≤ b.cps.toList := (List.pairwise_cons.mp p1).1 b List.mem_cons_self
  have q2 : b.cps.toList ≤ a.cps.toList := (List.pairwise_cons.mp p2).1 a List.mem_cons_self
  have q3 : a = b := str_ext (List.le_antisymm q1 q2)
  rw [List.nodup_cons] at nd
  exact nd.1 (by rw [q3]; exact List.mem_cons_self)
def InK (keys : List Str) (d : PyData) : Prop := kindD keys d = false
section
variable {p : Addr} {σ : L2.St} {H0 : Hp} {K : PySem.W.Frag}
theorem Ev.rep6 {c : Nat} {te : TE} {D : PyData → Prop} (h : Ev p σ H0 c te D) (hd : ∀ d, D d → ∃ d1, d = .tuple [d1]) :
    Ev p σ H0 c (tOp (rRepT K) te (tC (.int 6))) (fun d => ∃ d1, d = .tuple [d1, d1, d1, d1, d1, d1] ∧ D (.tuple [d1])) := fun H n Q o hp hn k =>
  h H n _ o hp hn fun v d H1 hD dt o1 hp1 => by
    obtain ⟨d1, rfl⟩ := hd d hD
    cases dt with
    | tup e n1 r =>
      cases r with
      | cons h1 r =>
        cases r
        refine ⟨_, _, _, rfl, rfl, SqT.of (del_sub _ _ e), (fun z => nomatch z), by decide, by decide, by show 1 ≤ 1000; decide, fun l nl => ?_⟩
        obtain ⟨s, e2, hp2, o2⟩ := fresh (o := .tup (List.replicate (6 : Int).toNat _).flatten) hp1 nl
        have g := h1.same s
        exact k _ _ _ ⟨d1, rfl, hD⟩ (.tup e2 (by show 6 ≤ 1000; decide) (.cons g (.cons g (.cons g (.cons g (.cons g (.cons g .nil))))))) (o1.trans o2) hp2
theorem Ev.catT {c c' : Nat} {ta tb : TE} {A B : PyData → Prop} {k m : Nat} (ha : Ev p σ H0 c ta A) (hb : Ev p σ H0 c' tb B) (la : ∀ d, A d → ∃ ds, d = .tuple ds ∧ 1 ≤ ds.length ∧ ds.length ≤ k) (lb : ∀ d, B d → ∃ ds, d = .tuple ds ∧ 1 ≤ ds.length ∧ ds.length ≤ m) (hkm : k + m ≤ 1000) :
    Ev p σ H0 (c + c') (tOp (rCatT K) ta tb) (fun d => ∃ ds es, d = .tuple (ds ++ es) ∧ A (.tuple ds) ∧ B (.tuple es)) := fun H n Q o hp hn K =>
  ha H n _ o hp (by omega) fun v d H1 hA dt o1 hp1 => hb H1 (n + c) _ (o.trans o1) hp1 (by omega) fun w e H2 hB et o2 hp2 => by
    obtain ⟨ds, rfl, l0, l1⟩ := la d hA
    obtain ⟨es, rfl, l3, l2⟩ := lb e hB
    cases dt with
    | tup e1 n1 r1 =>
      cases et with
      | tup e2 n2 r2 =>
        have q1 := off_same o2 _ _ e1
        have k1 := r1.len
        have k2 := r2.len
        refine ⟨_, _, _, _, rfl, rfl, SqT.of (del_sub _ _ q1), SqT.of (del_sub _ _ e2), ?_, Nat.le_trans (by omega : _ ≤ 1000) (by decide), ?_, fun _ q nq => ?_⟩
        · intro z
          rw [z] at k1
          simp at k1
          omega
        · intro z
          rw [z] at k2
          simp at k2
          omega
        obtain ⟨s, e, hp3, o3⟩ := fresh (o := .tup (_ ++ _)) hp2 nq
        exact K _ _ _ ⟨ds, es, rfl, hA, hB⟩ (.tup e (by rw [List.length_append]; omega) (((r1.same (off_same o2)).same s).app (r2.same s))) ((o1.trans o2).trans o3) (hp3.mono (by omega))
theorem Ev.at_ {i j : Nat} {v : V} {ds : List PyData} {d : PyData} (hi : σ[i]? = some (some v)) (h : Dt (del H0 p) v (.list ds)) (hj : ds[j]? = some d) :
    Ev p σ H0 0 (tOp (rIxL K) (tVar i) (tC (.int (j : Int)))) (· = d) := fun H n Q o hp hn k => by
  have dt := h.same (off_same o)
  cases dt with
  | lst e n1 r =>
    obtain ⟨v, hv, dv⟩ := r.at' hj
    exact ⟨_, hi, _, _, _, _, rfl, rfl, SqL.of (del_sub _ _ e), at_of rfl hv, k v d H rfl dv (Off.refl _ _) hp⟩
end
theorem kind_at {H : Hp} {xs : List V} {ks : List KRow} (r : DtAll H xs (ks.map kindT)) {i : Nat} (h : i < xs.length) : ∃ q t k, ks[i]? = some k ∧ xs[i]? = some (.ref q) ∧ H q = some (.tup [.str k.1, .ref t]) ∧ Dt H (.ref t) (.tuple (k.2.map .str)) := by
  obtain ⟨d, hd, hx⟩ := r.at_ (List.getElem?_eq_getElem h)
  rw [List.getElem?_map] at hd
  cases e : ks[i]? with
  | none =>
    rw [e] at hd
    cases hd
  | some k =>
    rw [e] at hd
    cases hd
    generalize ez : xs[i] = z at hx
    cases hx with
    | tup e1 _ l =>
      cases l with
      | cons h1 l =>
        cases l with
        | cons h2 l =>
          cases l
          cases h1
          cases h2 with
          | tup e2 l2 r2 => exact ⟨_, _, k, rfl, by rw [List.getElem?_eq_getElem h, ez], e1, .tup e2 l2 r2⟩
end Toy
set_option Elab.async false
set_option linter.all false
set_option maxRecDepth 100000
set_option maxHeartbeats 4000000
namespace Toy
open PySem PySem.Spec PyProof.Rows L2
theorem twice_is {keys : List Str} {ks : List KRow} {ds es : List PyData} (ea : PyData.list ds = .list (ks.map kindT)) (eb : PyData.list es = .list ((ks.map kindT).take 1)) (h : 1 ≤ ks.length) : kindsD keys (.list (ds ++ es)) = false := by
  injection ea with ea
  injection eb with eb
  rw [ea, eb]
  exact kbad_twice h
def InN (keys : List Str) (d : PyData) : Prop := InK keys d ∧ nl d = true ∧ isL d = false
theorem nl_twice {ks : List KRow} {ds es : List PyData} (ea : PyData.list ds = .list (ks.map kindT)) (eb : PyData.list es = .list ((ks.map kindT).take 1)) : nl (.list (ds ++ es)) = true := by
  injection ea with ea
  injection eb with eb
  rw [ea, eb]
  exact ((tups_kinds ks).app (Tups.take (fun d hd => by obtain ⟨r, _, rfl⟩ := List.mem_map.mp hd; exact nl_kind r) 1)).l
theorem tups_strs (y : List Str) : Tups (y.map .str) := tups_of fun d hd => by
  obtain ⟨x, _, rfl⟩ := List.mem_map.mp hd
  exact ⟨by simp [nl], rfl⟩
theorem nl_lst {x : Str} {y : List Str} {ds : List PyData} (e : PyData.list ds = .tuple (y.map .str) ∨ PyData.tuple ds = .tuple (y.map .str)) : nl (.tuple [.str x, .list ds]) = true := by
  rcases e with e | e
  · cases e
  · injection e with e
    have q := (tups_strs y).l
    rw [← e] at q
    rw [nl, nls, nls, q]
    simp [nl, nls]
theorem nl_cat {x : Str} {y : List Str} {ds : List PyData} (e : PyData.tuple ds = .tuple (y.map .str)) : nl (.tuple [.str x, .tuple (ds ++ [.str "nothing"])]) = true := by
  injection e with e
  rw [e]
  simp [nl, nls, nls_app, nls_strs]
def spNoKinds : Sp := fun vs H Q _ => ∃ (p ls lk : Addr) (n : Nat) (rows : Rows2) (ks : List KRow), vs = [.ref p, .ref ls, .ref lk] ∧ SrcAt H p n ∧ n ≤ 20000 ∧ GoodS rows ∧ GoodK (rows.map (·.1)) ks ∧ 1 ≤ ks.length ∧ ks.length ≤ 4 ∧ Dt (del H p) (.ref ls) (.list (rows.map rowT)) ∧ Dt (del H p) (.ref lk) (.list (ks.map kindT)) ∧
  ∀ v d H', kindsD (rows.map (·.1)) d = false → nl d = true → Dt (del H' p) v d → SrcAt H' p (n + 10) → Off p H H' → Q v H'
section
variable {P : Program} {w : World} {K : PySem.W.Frag} {mg : Str → Option Value} {base : Heap}
abbrev nkN : List Str := ["_law_source", "_law_sorts", "_law_kinds", "_law_sort", "_law_names_here", "_law_five", "_law_at", "_law_name", "_law_ends", "_law_some", "_law_partner"]
theorem scNoKinds : FnScope nkN ["_law_source", "_law_sorts", "_law_kinds"] (defScope sNoKinds) := ⟨rfl, rfl, rfl, by decide +kernel, rfl, by decide +kernel, by decide +kernel⟩
theorem ok_noKinds {f fN fO fX : Addr} {fd fdN fdO fdX : FuncData} (F : Fun K "_law_no_kinds" "_law_no_kinds" sNoKinds f fd) (M : Mods mg)
    (GN : FnOk P w K mg base CX0 1 fN fdN ["_law_source", "_law_many"] spNext) (kN : PySem.W.keepIn K (.ref fN) = true) (bN : Binds K fdN ["_law_source", "_law_many"] []) (gN : mg "_law_next" = some (.ref fN))
    (GO : FnOk P w K mg base CX0 2 fO fdO ["_law_source", "_law_some"] spOne) (kO : PySem.W.keepIn K (.ref fO) = true) (bO : Binds K fdO ["_law_source", "_law_some"] []) (gO : mg "_law_one" = some (.ref fO))
    (GX : FnOk P w K mg base CX0 3 fX fdX ["_law_source"] spNoName) (kX : PySem.W.keepIn K (.ref fX) = true) (bX : Binds K fdX ["_law_source"] []) (gX : mg "_law_no_name" = some (.ref fX)) :
    FnOk P w K mg base CX0 4 f fd ["_law_source", "_law_sorts", "_law_kinds"] spNoKinds := by
  refine F.ok scNoKinds (fun vs H Q E h => ?_) (fun cdv A outer s H vs Q E hrX h => ?_)
  · obtain ⟨p, ls, lk, n, rows, ks, rfl, _⟩ := h
    rfl
  · obtain ⟨p, ls, lk, n, rows, ks, rfl, hp, hn, gd, gk, l1k, l4k, ds, dk, k⟩ := h
    have hr2 : Room 2 (A.deeper (envOfC "_law_no_kinds" (defScope sNoKinds) s.heap.objs.size f cdv)) := hrX.mono (by decide)
    have hr1 : Room 1 (A.deeper (envOfC "_law_no_kinds" (defScope sNoKinds) s.heap.objs.size f cdv)) := hrX.mono (by decide)
    refine ⟨_, (pss_cons (ps_set (i := 3) scNoKinds.nd rfl (Or.inr rfl) (pe_ix ix_tup (pe_ix ix_list (pv 1) pe_int (fun _ _ => rfl)) pe_int (fun _ _ => rfl)))
      (pss_cons (ps_set (i := 4) scNoKinds.nd rfl (Or.inl rfl) (pe_callB cr_sortedS (by rfl) M.srt (by decide +kernel) (pa_cons (pe_lc (own := [("_law_name", 7), ("_law_partner", 10)]) (g := gTup K 2 (gCons (gName 7) (gCons (gName 10) gNil))) (tt := tYes) (te := tVar 7) rfl scNoKinds.nd (pi_list (pv 1)) (blkOk_by (N := nkN) (sc := defScope sNoKinds) (by decide +kernel)) (fun _ _ _ _ _ => (by exact pg_tup rfl (pgs_cons (pg_name (i := 7) scNoKinds.nd rfl (Or.inl rfl)) (pgs_cons (pg_name (i := 10) scNoKinds.nd rfl (Or.inl rfl)) pgs_nil)))) (fun _ _ _ _ _ => pts_nil) (fun _ _ _ _ _ => (by exact pv 7))) pa_nil)))
      (pss_cons (ps_if (pt_cmpR op_eq (pe_call GN hr1 (by rfl) gN kN bN .nil pass0 (pa_cons (pv 0) (pa_cons pe_int pa_nil))) pe_int (nomark _)) (pss_cons (ps_setLc (i := 5) (own := [("_law_name", 7)]) (g := gName 7) (tt := tYes) (te := tTup (tCons (tVar 7) (tCons (tTup (tCons (tVar 3) tNil)) tNil))) rfl scNoKinds.nd rfl rfl (sw_true rfl rfl rfl (by decide +kernel)) (pi_list (pe_lst (pa_cons pe_str (pa_cons pe_str (pa_cons pe_str (pa_cons pe_str (pa_cons pe_str pa_nil))))))) (blkOk_by (N := nkN) (sc := defScope sNoKinds) (by decide +kernel)) (fun _ _ _ _ _ => (pg_name (i := 7) scNoKinds.nd rfl (Or.inl rfl))) (fun _ _ _ _ _ => pts_nil) (fun _ _ _ _ _ => (by exact pe_tup (pa_cons (pv 7) (pa_cons (pe_tup (pa_cons (pv 3) pa_nil)) pa_nil)))))
      (pss_one (ps_ret (pe_call GO hr2 (by rfl) gO kO bO .nil pass0 (pa_cons (pv 0) (pa_cons (pe_lst (pa_cons pe_non (pa_cons (pe_lst pa_nil) (pa_cons (pe_callTy call_tuple_of (by rfl) M.tup_ (by decide +kernel) (pa_cons (pv 2) pa_nil)) (pa_cons pe_dnewK (pa_cons pe_str (pa_cons pe_int (pa_cons (pv 5) (pa_cons (pe_op op_cat (pv 2) (pe_slice sl_list (pv 2) po_none (po_some pe_int))) pa_nil))))))))) pa_nil)))))) pss_nil)
      (pss_cons (ps_set (i := 6) scNoKinds.nd rfl (Or.inl rfl) (pe_call GN hr1 (by rfl) gN kN bN .nil pass0 (pa_cons (pv 0) (pa_cons (pe_callB call_len_seq (by rfl) M.len PySem.boot_len (pa_cons (pv 2) pa_nil)) pa_nil))))
      (pss_cons (ps_asg (pe_ix ix_list (pv 2) (pv 6) (fun _ _ => rfl)) (pg_tup rfl (pgs_cons (pg_name (i := 7) scNoKinds.nd rfl (Or.inl rfl)) (pgs_cons (pg_name (i := 8) scNoKinds.nd rfl (Or.inl rfl)) pgs_nil))))
      (pss_cons (ps_set (i := 9) scNoKinds.nd rfl (Or.inl rfl) (pe_lst (pa_cons (pe_tup (pa_cons (pv 7) (pa_cons (pe_tup pa_nil) pa_nil))) (pa_cons (pe_tup (pa_cons (pv 7) (pa_cons (pe_op op_repT (pe_tup (pa_cons (pv 3) pa_nil)) pe_int) pa_nil))) (pa_cons (pe_tup (pa_cons (pv 7) (pa_cons (pe_callTy call_list_of (by rfl) M.lst_ (by decide +kernel) (pa_cons (pv 8) pa_nil)) pa_nil))) (pa_cons (pe_tup (pa_cons (pv 7) (pa_cons pe_non pa_nil))) (pa_cons (pe_tup (pa_cons (pv 7) (pa_cons (pe_op op_catT (pv 8) (pe_tup (pa_cons pe_str pa_nil))) pa_nil))) (pa_cons (pe_tup (pa_cons (pv 7) pa_nil)) pa_nil))))))))
      (pss_cons (ps_set (i := 9) scNoKinds.nd rfl (Or.inl rfl) (pe_op op_cat (pv 9) (pe_lst (pa_cons (pe_tup (pa_cons (pv 7) (pa_cons (pv 8) (pa_cons pe_int pa_nil)))) (pa_cons (pe_lst (pa_cons (pv 7) (pa_cons (pv 8) pa_nil))) (pa_cons (pe_tup (pa_cons (pe_call GX hrX (by rfl) gX kX bX .nil pass0 (pa_cons (pv 0) pa_nil)) (pa_cons (pv 8) pa_nil))) (pa_cons (pe_tup (pa_cons (pv 7) (pa_cons (pe_tup (pa_cons pe_non pa_nil)) pa_nil))) (pa_cons (pe_tup (pa_cons (pv 7) (pa_cons (pv 3) pa_nil))) (pa_cons pe_non pa_nil)))))))))
      (pss_cons (ps_if (pt_cmpR op_gt (pe_callB call_len_seq (by rfl) M.len PySem.boot_len (pa_cons (pv 4) pa_nil)) pe_int (nomark _)) (pss_one (ps_expr (pe_bm PySem.F.plainAttrs_list PySem.F.slot_list_append PySem.F.type_list_append mt_append (pv 9) (pa_cons (pe_tup (pa_cons (pv 7) (pa_cons (pe_tup (pa_cons (pe_ix ix_list (pv 4) pe_int (fun _ _ => rfl)) (pa_cons (pe_ix ix_list (pv 4) pe_int (fun _ _ => rfl)) pa_nil))) pa_nil))) pa_nil)))) pss_nil)
      (pss_one (ps_ret (pe_op op_cat (pe_op op_cat (pe_slice sl_list (pv 2) po_none (po_some (pv 6))) (pe_lst (pa_cons (pe_call GO hr2 (by rfl) gO kO bO .nil pass0 (pa_cons (pv 0) (pa_cons (pv 9) pa_nil))) pa_nil))) (pe_slice sl_list (pv 2) (po_some (pe_op op_add (pv 6) pe_int)) po_none)))))))))))), ?_⟩
    obtain ⟨g1, g3, gN_, gnd, gmu⟩ := good_rows gd
    obtain ⟨xs, hls, lxs, rxs⟩ := dt_list ds
    have lenx : xs.length = rows.length := by rw [rxs.len, List.length_map]
    obtain ⟨q0, ⟨x0, y0⟩, hr0, ex0, eq0⟩ := row_at rxs (i := 0) (by omega)
    refine ⟨_, rfl, ls, xs, 0, _, rfl, rfl, SqL.of (del_sub _ _ hls), at_of rfl ex0, q0, _, 0, _, rfl, rfl, SqT.of (del_sub _ _ eq0), ix0, ?_⟩
    refine ⟨_, rfl, ls, rfl, ⟨_, SqL.of (del_sub _ _ hls)⟩, fun D nD => ?_⟩
    have nDp := hp.ne nD
    refine lc_mapW (walk_list (K := K) (a := ls) (xs := xs)) ((rows.map (·.1)).map V.str) (by rw [List.length_map, List.length_map, lenx]) lxs nD (fun H1 s1 => SqL.of (s1 _ _ (del_sub _ _ hls))) (fun i H x H' h => by rw [h.1]; exact Same.refl _) (fun i y H1 H2 R hi s1 hy hR => ?_) (fun H1 s1 hD1 => ?_)
    · obtain ⟨rfl, hy⟩ := hy
      obtain ⟨q, r, hr, ex, eq⟩ := row_at rxs hi
      rw [ex] at hy
      cases hy
      refine ⟨q, _, rfl, SqT.of (s1 _ _ (del_sub _ _ eq)), rfl, _, _, rfl, _, _, rfl, rfl, rfl, _, rfl, hR _ _ ?_ (Same.refl _)⟩
      rw [List.getElem?_map, List.getElem?_map, hr]
      rfl
    have lrows : (rows.map (·.1)).length = rows.length := List.length_map _
    refine ⟨D, rows.map (·.1), rfl, SqL.of hD1, by omega, fun ys l4 pm so n4 => ?_⟩
    have lys : ys.length = rows.length := by rw [pm.length_eq, lrows]
    have kys : ∀ x ∈ ys, nameS x = true := fun x hx => by
      obtain ⟨r, hr, e⟩ := List.mem_map.mp (pm.mem_iff.mp hx)
      rw [← e]
      exact (gN_ r hr).1
    obtain ⟨s4, e4, hp4, o4⟩ := fresh (o := .lst (ys.map V.str)) (hp.same s1) n4
    have d4 : Dt (del (upd H1 l4 (.lst (ys.map V.str))) p) (.ref l4) (.list (ys.map .str)) := .lst e4 (by rw [List.length_map]; omega) (DtAll.strs ys fun x hx => okS_name (kys x hx))
    have oA : Off p H (upd H1 l4 (.lst (ys.map V.str))) := (Same.off s1).trans o4
    generalize upd H1 l4 (.lst (ys.map V.str)) = HA at s4 e4 hp4 o4 d4 oA ⊢
    refine ⟨_, rfl, p, 4, n, rfl, hp4, by decide, by decide, by omega, fun r HB r0 r1 hpB oB' => ?_⟩
    have oB := oA.trans oB'
    have d4 := d4.same (off_same oB')
    have ds1 := ds.same (off_same oB)
    have dk1 := dk.same (off_same oB)
    have okx0 : okS x0 := okS_name (gN_ (x0, y0) (List.mem_of_getElem? hr0)).1
    refine ⟨rfl, _, rfl, ite2 (fun _ => ?_) (fun _ => ?_)⟩
    · refine ⟨by show 5 ≤ sizeLine; decide, fun u nu => ?_⟩
      obtain ⟨su, eu, hpu, ou⟩ := fresh (o := .lst [.str "aa", .str "bb", .str "cc", .str "dd", .str "ee"]) hpB nu
      have nup := hpB.ne nu
      have hu : upd HB u (.lst [.str "aa", .str "bb", .str "cc", .str "dd", .str "ee"]) u = some (.lst [.str "aa", .str "bb", .str "cc", .str "dd", .str "ee"]) := upd_same
      refine ⟨u, rfl, ⟨_, SqL.of upd_same⟩, fun D5 nD5 => ?_⟩
      generalize upd HB u (.lst [.str "aa", .str "bb", .str "cc", .str "dd", .str "ee"]) = HU at su eu hpu ou hu nD5 ⊢
      have nD5p := hpu.ne nD5
      refine lc_it (walk_list (K := K) (a := u) (xs := [.str "aa", .str "bb", .str "cc", .str "dd", .str "ee"])) (fun i H' => Off p HU H' ∧ SrcAt H' p (n + 1) ∧ ∃ acc ds, H' D5 = some (.lst acc) ∧ DtAll (del2 H' p D5) acc ds ∧ ds.length = i ∧ ∀ d ∈ ds, nl d = true ∧ isL d = false) ⟨Same.off (same_new nD5), hpu.same (same_new nD5), [], [], upd_same, .nil, rfl, fun _ z => nomatch z⟩ (fun i H' hi h => SqL.of (h.1 _ _ hu nup)) ?_ ?_
      · rintro i x H5 H6 hi ⟨o5, hp5, acc, dd, hD5, ra, ld, hdd⟩ ⟨rfl, hx⟩
        have hi5 : i < 5 := hi
        obtain ⟨z, rfl, okz⟩ : ∃ z, x = .str z ∧ okS z := by
          have hm := List.mem_of_getElem? hx
          simp only [List.mem_cons, List.not_mem_nil, or_false] at hm
          rcases hm with rfl | rfl | rfl | rfl | rfl
          all_goals exact ⟨_, rfl, by unfold okS; decide +kernel⟩
        refine ⟨rfl, ?_⟩
        delta tYes
        dsimp only
        rw [if_pos rfl]
        refine ⟨_, rfl, _, rfl, by show 1 ≤ sizeLine; decide, fun t nt => ?_⟩
        have t1 := same_new (o := .tup [.str x0]) nt
        refine ⟨by show 2 ≤ sizeLine; decide, fun t2 nt2 => ?_⟩
        have t2' := same_new (o := .tup [.str z, .ref t]) nt2
        have tA := t1.trans t2'
        have ntp := hp5.ne nt
        have nt2p := (hp5.same t1).ne nt2
        have ntD : t ≠ D5 := fun z => by
          rw [z, hD5] at nt
          cases nt
        have nt2D : t2 ≠ D5 := fun z => by
          rw [z, t1 _ _ hD5] at nt2
          cases nt2
        have et := t2' _ _ (upd_same (H := H6) (a := t) (o := .tup [.str x0]))
        have et2 : upd (upd H6 t (.tup [.str x0])) t2 (.tup [.str z, .ref t]) t2 = some (.tup [.str z, .ref t]) := upd_same
        generalize upd (upd H6 t (.tup [.str x0])) t2 (.tup [.str z, .ref t]) = H7 at tA et et2 ⊢
        have dn : Dt (del2 H7 p D5) (.ref t2) (.tuple [.str z, .tuple [.str x0]]) := by
          refine .tup (xs := [.str z, .ref t]) ?_ (by show 2 ≤ 1000; decide) (.cons (.str z okz) (.cons (.tup (xs := [.str x0]) ?_ (by show 1 ≤ 1000; decide) (.cons (.str x0 okx0) .nil)) .nil))
          · unfold del2
            rw [del_ne nt2D, del_ne nt2p, et2]
          · unfold del2
            rw [del_ne ntD, del_ne ntp, et]
        refine ⟨acc, tA _ _ hD5, small1000 (by have := ra.len; omega), (o5.trans (Same.off tA)).upd0 nD5, (hp5.same tA).upd nD5p, acc ++ [.ref t2], dd ++ [.tuple [.str z, .tuple [.str x0]]], upd_same, ?_, by rw [List.length_append, ld]; rfl, fun d hd => (List.mem_append.mp hd).elim (hdd d) fun z => by rw [List.mem_singleton.mp z]; exact ⟨by simp [nl, nls], rfl⟩⟩
        exact ((ra.same (off2 (Same.off tA))).same del2_upd).app (.cons (dn.same del2_upd) .nil)
      · rintro H5 ⟨o5, hp5, acc, dd, hD5, ra, ld, hdd⟩
        have ld : dd.length = 5 := ld
        have d5 : Dt (del H5 p) (.ref D5) (.list dd) := .lst (xs := acc) (by rw [del_ne nD5p]; exact hD5) (by have := ra.len; omega) (ra.same del_sub)
        have nld := (tups_of hdd).l
        have dk2 := dk1.same (off_same (ou.trans o5))
        have lkA : ∀ d, d = PyData.list (ks.map kindT) → ∃ ds, d = .list ds ∧ ds.length ≤ 500 := by
          rintro _ rfl
          exact ⟨_, rfl, by rw [List.length_map]; omega⟩
        have lkB : ∀ d, d = PyData.list ((ks.map kindT).take 1) → ∃ ds, d = .list ds ∧ ds.length ≤ 400 := by
          rintro _ rfl
          exact ⟨_, rfl, by rw [List.length_take, List.length_map]; omega⟩
        delta gName
        dsimp only
        refine Ev.ret (Ev.one (B := fun d => kindsD (rows.map (·.1)) d = false ∧ nl d = true) (H0 := H5) (c := 0) rfl (Ev.menu (c := 0) (k := 8) (B := fun d => kindsD (rows.map (·.1)) d = false ∧ nl d = true) ?_ (by decide) (by decide))) (Off.refl _ _) hp5 (by omega) (fun v d H' hd dt o' hp' => k v d H' hd.1 hd.2 dt (hp'.mono (by omega)) (((oB.trans ou).trans o5).trans o'))
        exact (Evs.ball (Ev.con fun H => .non) (by rintro _ rfl; exact ⟨rfl, (by simp [nl, nls, isL, nls_strs])⟩)
        (Evs.ball (Ev.lst Evs.nil (by rintro _ rfl; show 0 ≤ 1000; decide)) (by rintro _ ⟨_, rfl, rfl⟩; exact ⟨rfl, (by simp [nl, nls, isL, nls_strs])⟩)
        (Evs.ball (Ev.tupleOf (Ev.var rfl dk2) (by rintro _ rfl; exact ⟨_, rfl⟩)) (by rintro _ ⟨_, rfl, ea⟩; exact ⟨rfl, (by injection ea with ea; rw [ea]; exact (tups_kinds ks).t)⟩)
        (Evs.ball Ev.dct (by rintro _ rfl; exact ⟨rfl, (by simp [nl, nls, isL, nls_strs])⟩)
        (Evs.ball (Ev.con fun H => con_s "three" (by decide +kernel)) (by rintro _ rfl; exact ⟨rfl, (by simp [nl, nls, isL, nls_strs])⟩)
        (Evs.ball (Ev.con fun H => .int 0) (by rintro _ rfl; exact ⟨rfl, (by simp [nl, nls, isL, nls_strs])⟩)
        (Evs.ball (Ev.var rfl d5) (by rintro _ rfl; exact ⟨kbad_len (by omega), nld⟩)
        (Evs.ball (Ev.cat (k := 500) (m := 400) (Ev.var rfl dk2) (Ev.upTo (m := 1) rfl dk2 fun H R h => ⟨1, rfl, h⟩) lkA lkB (by decide)) (by rintro _ ⟨_, _, rfl, ea, eb⟩; exact ⟨twice_is ea eb l1k, (nl_twice ea eb)⟩)
        Evs.ball0))))))))
    · obtain ⟨xk, hlk, lxk, rxk⟩ := dt_list dk1
      have lenk : xk.length = ks.length := by rw [rxk.len, List.length_map]
      have nlkp : lk ≠ p := fun z => by
        rw [z, del_same] at hlk
        cases hlk
      refine ⟨_, rfl, _, rfl, lk, xk, rfl, .inl (SqL.of (del_sub _ _ hlk)), p, (xk.length : Int), n + 1, rfl, hpB, by omega, by omega, by omega, fun r2 H2 r20 r21 hp2 o2 => ?_⟩
      obtain ⟨at_, rfl⟩ := Int.eq_ofNat_of_zero_le r20
      have hat : at_ < xk.length := by omega
      have dk2 := dk1.same (off_same o2)
      have hlk2 := off_same o2 _ _ hlk
      obtain ⟨q, te, ⟨x, y⟩, hr_, ex, eq_, d8⟩ := kind_at (rxk.same (off_same o2)) hat
      refine ⟨_, rfl, _, rfl, lk, xk, _, _, rfl, rfl, SqL.of (del_sub _ _ hlk2), at_of rfl ex, q, _, rfl, SqT.of (del_sub _ _ eq_), rfl, _, _, rfl, _, _, rfl, rfl, ?_⟩
      have xk_ := List.mem_of_getElem? hr_
      have okx : okS x := okS_name (gk.nm (x, y) xk_)
      have d7 : Dt (del H2 p) (.str x) (.str x) := .str x okx
      have d3 : Dt (del H2 p) (.str x0) (.str x0) := .str x0 okx0
      have d4 := d4.same (off_same o2)
      have ly : 1 ≤ y.length ∧ y.length ≤ 5 := ⟨(gk.en (x, y) xk_).1, (gk.en (x, y) xk_).2.1⟩
      have le8 : ∀ d, d = PyData.tuple (y.map .str) → ∃ ds, d = .tuple ds ∧ 1 ≤ ds.length ∧ ds.length ≤ 5 := by
        rintro _ rfl
        exact ⟨_, rfl, by rw [List.length_map]; omega, by rw [List.length_map]; omega⟩
      dsimp only
      refine Ev.asg (i := 9) (H0 := H2) (c := 0) (D := MenuN 6 (InN (rows.map (·.1)))) (Ev.menuN ?m1 (by decide)) (Off.refl _ _) hp2 (by omega) ?_
      case m1 => exact (Evs.ball (Ev.tup (Evs.cons (Ev.var rfl d7) (Evs.cons (Ev.tup Evs.nil (by rintro _ rfl; show 0 ≤ 1000; decide)) Evs.nil)) (by rintro _ ⟨_, _, rfl, rfl, ⟨_, _, rfl, ⟨_, rfl, rfl⟩, rfl⟩⟩; show 2 ≤ 1000; decide)) (by rintro _ ⟨_, rfl, ⟨_, _, rfl, rfl, ⟨_, _, rfl, ⟨_, rfl, rfl⟩, rfl⟩⟩⟩; exact ⟨kbad_e rfl, ⟨(by simp [nl, nls, isL, nls_strs]), rfl⟩⟩)
        (Evs.ball (Ev.tup (Evs.cons (Ev.var rfl d7) (Evs.cons (Ev.rep6 (Ev.tup (Evs.cons (Ev.var rfl d3) Evs.nil) (by rintro _ ⟨_, _, rfl, rfl, rfl⟩; show 1 ≤ 1000; decide)) (by rintro _ ⟨_, rfl, _, _, rfl, rfl, rfl⟩; exact ⟨_, rfl⟩)) Evs.nil)) (by rintro _ ⟨_, _, rfl, rfl, ⟨_, _, rfl, ⟨dd, rfl, ⟨_, e9, _, _, rfl, e8, rfl⟩⟩, rfl⟩⟩; show 2 ≤ 1000; decide)) (by rintro _ ⟨_, rfl, ⟨_, _, rfl, rfl, ⟨_, _, rfl, ⟨dd, rfl, ⟨_, e9, _, _, rfl, e8, rfl⟩⟩, rfl⟩⟩⟩; exact ⟨kbad_e (ebad_long _ dd), ⟨(by injection e9 with e9; injection e9 with e9 e7; rw [e9, e8]; simp [nl, nls]), rfl⟩⟩)
        (Evs.ball (Ev.tup (Evs.cons (Ev.var rfl d7) (Evs.cons (Ev.listOf (Ev.var rfl d8) (by rintro _ rfl; exact ⟨_, .inr rfl⟩)) Evs.nil)) (by rintro _ ⟨_, _, rfl, rfl, ⟨_, _, rfl, ⟨_, rfl, ez⟩, rfl⟩⟩; show 2 ≤ 1000; decide)) (by rintro _ ⟨_, rfl, ⟨_, _, rfl, rfl, ⟨_, _, rfl, ⟨_, rfl, ez⟩, rfl⟩⟩⟩; exact ⟨kbad_e rfl, ⟨(nl_lst ez), rfl⟩⟩)
        (Evs.ball (Ev.tup (Evs.cons (Ev.var rfl d7) (Evs.cons (Ev.con fun H => .non) Evs.nil)) (by rintro _ ⟨_, _, rfl, rfl, ⟨_, _, rfl, rfl, rfl⟩⟩; show 2 ≤ 1000; decide)) (by rintro _ ⟨_, rfl, ⟨_, _, rfl, rfl, ⟨_, _, rfl, rfl, rfl⟩⟩⟩; exact ⟨kbad_e rfl, ⟨(by simp [nl, nls, isL, nls_strs]), rfl⟩⟩)
        (Evs.ball (Ev.tup (Evs.cons (Ev.var rfl d7) (Evs.cons (Ev.catT (k := 5) (m := 1) (Ev.var rfl d8) (Ev.tup (Evs.cons (Ev.con fun H => con_s "nothing" (by decide +kernel)) Evs.nil) (by rintro _ ⟨_, _, rfl, rfl, rfl⟩; show 1 ≤ 1000; decide)) le8 (by rintro _ ⟨_, rfl, _, _, rfl, rfl, rfl⟩; exact ⟨_, rfl, Nat.le_refl _, Nat.le_refl _⟩) (by decide)) Evs.nil)) (by rintro _ ⟨_, _, rfl, rfl, ⟨_, _, rfl, ⟨_, _, rfl, ea, ⟨_, eb, _, _, rfl, rfl, rfl⟩⟩, rfl⟩⟩; show 2 ≤ 1000; decide)) (by rintro _ ⟨_, rfl, ⟨_, _, rfl, rfl, ⟨_, _, rfl, ⟨_, _, rfl, ea, ⟨_, eb, _, _, rfl, rfl, rfl⟩⟩, rfl⟩⟩⟩; injection eb with eb; subst eb; exact ⟨kbad_e (ebad_noth gd _), ⟨(nl_cat ea), rfl⟩⟩)
        (Evs.ball (Ev.tup (Evs.cons (Ev.var rfl d7) Evs.nil) (by rintro _ ⟨_, _, rfl, rfl, rfl⟩; show 1 ≤ 1000; decide)) (by rintro _ ⟨_, rfl, ⟨_, _, rfl, rfl, rfl⟩⟩; exact ⟨rfl, ⟨(by simp [nl, nls, isL, nls_strs]), rfl⟩⟩)
        Evs.ball0))))))
      rintro v6 _ H3 ⟨ds6, rfl, hB6, hl6⟩ d6 o3 hp3
      have d3 := d3.same (off_same o3)
      have d7 := d7.same (off_same o3)
      have d8 := d8.same (off_same o3)
      refine EvF.asg (i := 9) (H0 := H3) (c := 1) (EvF.cat (c := 0) (c' := 1) (A := (· = .list ds6)) (B := MenuN 6 (InN (rows.map (·.1)))) (k := 6) (m := 6) (Ev.var rfl d6) (Ev.menuN ?m2 (by decide)) (by rintro _ rfl; exact ⟨ds6, rfl, by omega⟩) (by rintro _ ⟨es, rfl, _, l3⟩; exact ⟨es, rfl, by omega⟩) (by decide)) (Off.refl _ _) hp3 (by omega) ?_
      case m2 => exact (Evs.ball (Ev.tup (Evs.cons (Ev.var rfl d7) (Evs.cons (Ev.var rfl d8) (Evs.cons (Ev.con fun H => .int 0) Evs.nil))) (by rintro _ ⟨_, _, rfl, rfl, ⟨_, _, rfl, rfl, ⟨_, _, rfl, rfl, rfl⟩⟩⟩; show 3 ≤ 1000; decide)) (by rintro _ ⟨_, rfl, ⟨_, _, rfl, rfl, ⟨_, _, rfl, rfl, ⟨_, _, rfl, rfl, rfl⟩⟩⟩⟩; exact ⟨rfl, ⟨(by simp [nl, nls, isL, nls_strs]), rfl⟩⟩)
        (Evs.ball (Ev.lst (Evs.cons (Ev.var rfl d7) (Evs.cons (Ev.var rfl d8) Evs.nil)) (by rintro _ ⟨_, _, rfl, rfl, ⟨_, _, rfl, rfl, rfl⟩⟩; show 2 ≤ 1000; decide)) (by rintro _ ⟨_, rfl, ⟨_, _, rfl, rfl, ⟨_, _, rfl, rfl, rfl⟩⟩⟩; exact ⟨rfl, ⟨(by simp [nl, nls, isL, nls_strs]), rfl⟩⟩)
        (Evs.ball (Ev.tup (Evs.cons (Ev.noName rfl) (Evs.cons (Ev.var rfl d8) Evs.nil)) (by rintro _ ⟨_, _, rfl, ⟨hx, hl⟩, ⟨_, _, rfl, rfl, rfl⟩⟩; show 2 ≤ 1000; decide)) (by rintro _ ⟨_, rfl, ⟨_, _, rfl, ⟨hx, hl⟩, ⟨_, _, rfl, rfl, rfl⟩⟩⟩; exact ⟨kbad_n hx, ⟨(by simp [nl, nls, isL, nls_strs, hl]), rfl⟩⟩)
        (Evs.ball (Ev.tup (Evs.cons (Ev.var rfl d7) (Evs.cons (Ev.tup (Evs.cons (Ev.con fun H => .non) Evs.nil) (by rintro _ ⟨_, _, rfl, rfl, rfl⟩; show 1 ≤ 1000; decide)) Evs.nil)) (by rintro _ ⟨_, _, rfl, rfl, ⟨_, _, rfl, ⟨_, rfl, ⟨_, _, rfl, rfl, rfl⟩⟩, rfl⟩⟩; show 2 ≤ 1000; decide)) (by rintro _ ⟨_, rfl, ⟨_, _, rfl, rfl, ⟨_, _, rfl, ⟨_, rfl, ⟨_, _, rfl, rfl, rfl⟩⟩, rfl⟩⟩⟩; exact ⟨kbad_e rfl, ⟨(by simp [nl, nls, isL, nls_strs]), rfl⟩⟩)
        (Evs.ball (Ev.tup (Evs.cons (Ev.var rfl d7) (Evs.cons (Ev.var rfl d3) Evs.nil)) (by rintro _ ⟨_, _, rfl, rfl, ⟨_, _, rfl, rfl, rfl⟩⟩; show 2 ≤ 1000; decide)) (by rintro _ ⟨_, rfl, ⟨_, _, rfl, rfl, ⟨_, _, rfl, rfl, rfl⟩⟩⟩; exact ⟨kbad_e rfl, ⟨(by simp [nl, nls, isL, nls_strs]), rfl⟩⟩)
        (Evs.ball (Ev.con fun H => .non) (by rintro _ rfl; exact ⟨rfl, ⟨(by simp [nl, nls, isL, nls_strs]), rfl⟩⟩)
        Evs.ball0))))))
      rintro l7 _ H4 ⟨w6, es7, rfl, e6, ⟨_, e7, hB7, hl7⟩⟩ d9 l70 o4' hp4'
      injection e6 with e6
      injection e7 with e7
      subst e6 e7
      have hB : ∀ d ∈ w6 ++ es7, InN (rows.map (·.1)) d := fun d hd => (List.mem_append.mp hd).elim (hB6 d) (hB7 d)
      have hlen : (w6 ++ es7).length = 12 := by rw [List.length_append, hl6, hl7]
      generalize w6 ++ es7 = ds7 at d9 hB hlen
      have nl7 : l7 ≠ p := hp3.ne l70
      have l72 : H2 l7 = none := o3.free hp3 l70
      have oH4 := o3.trans o4'
      obtain ⟨xs7, h7, lx7, rx7⟩ := dt_list d9
      have lenx7 : xs7.length = 12 := by rw [rx7.len, hlen]
      have d4' := d4.same (off_same oH4)
      obtain ⟨xs4, h4, lx4, rx4⟩ := dt_list d4'
      have len4 : xs4.length = ys.length := by rw [rx4.len, List.length_map]
      refine ⟨_, rfl, l4, xs4, rfl, .inl (SqL.of (del_sub _ _ h4)), _, _, rfl, rfl, _, rfl, ite2 (fun hgt => ?_) (fun _ => ?_)⟩
      case' refine_1 =>
        have h2 : 1 < ys.length := by
          have q := of_decide_eq_true hgt
          omega
        obtain ⟨ya, yb, yr, ey⟩ : ∃ ya yb yr, ys = ya :: yb :: yr := by
          match ys, h2 with
          | ya :: yb :: yr, _ => exact ⟨ya, yb, yr, rfl⟩
        rw [ey] at rx4
        obtain ⟨va, ha, dva⟩ := rx4.at' (i := 0) rfl
        obtain ⟨vb, hb, dvb⟩ := rx4.at' (i := 1) rfl
        obtain ⟨rfl, oka⟩ := dt_str dva
        obtain ⟨rfl, okb⟩ := dt_str dvb
        refine ⟨_, rfl, .inl ⟨rfl, _, SqL.of (del_sub _ _ h7)⟩, _, rfl, _, rfl, l4, xs4, 1, _, rfl, rfl, SqL.of (del_sub _ _ h4), at_of rfl hb, _, rfl, l4, xs4, 0, _, rfl, rfl, SqL.of (del_sub _ _ h4), at_of rfl ha, by show 2 ≤ sizeLine; decide, fun t nt => ?_⟩
        obtain ⟨st, dt, hpt, ft⟩ := fresh (o := .tup [.str yb, .str ya]) hp4' nt
        refine ⟨by show 2 ≤ sizeLine; decide, fun t2 nt2 => ?_⟩
        obtain ⟨st2, dt2, hpt2, ft2⟩ := fresh (o := .tup [.str x, .ref t]) hpt nt2
        have h7t := st2 _ _ (st _ _ h7)
        refine ⟨l7, xs7, .ref t2, rfl, rfl, del_sub _ _ h7t, small1000 (by omega), ?_⟩
        have nt7 : t ≠ l7 := fun z => by
          rw [z] at nt
          have q := del_sub _ _ h7
          rw [nt] at q
          cases q
        have nt27 : t2 ≠ l7 := fun z => by
          rw [z] at nt2
          have q := del_sub _ _ (st _ _ h7)
          rw [nt2] at q
          cases q
        have ht : Dt (del2 (upd (upd H4 t (.tup [.str yb, .str ya])) t2 (.tup [.str x, .ref t])) p l7) (.ref t2) (.tuple [.str x, .tuple [.str yb, .str ya]]) := by
          refine .tup (xs := [.str x, .ref t]) ?_ (by show 2 ≤ 1000; decide) (.cons (.str x okx) (.cons (.tup (xs := [.str yb, .str ya]) ?_ (by show 2 ≤ 1000; decide) (.cons (.str yb okb) (.cons (.str ya oka) .nil))) .nil))
          · unfold del2
            rw [del_ne nt27]
            exact dt2
          · unfold del2
            rw [del_ne nt7]
            exact st2 _ _ dt
        have dE := dt_append ((d9.same st).same st2) (del_sub _ _ h7t) nl7 ht (by omega)
        have hBE : ∀ d ∈ ds7 ++ [.tuple [.str x, .tuple [.str yb, .str ya]]], InN (rows.map (·.1)) d := fun d hd => (List.mem_append.mp hd).elim (hB d) fun z => by
          rw [List.mem_singleton.mp z]
          exact ⟨kbad_e (ebad_order ey so (pm.nodup_iff.mpr gnd)), by simp [nl, nls], rfl⟩
        have lE : (ds7 ++ [PyData.tuple [.str x, .tuple [.str yb, .str ya]]]).length ≤ 13 ∧ 1 ≤ (ds7 ++ [PyData.tuple [.str x, .tuple [.str yb, .str ya]]]).length := by
          rw [List.length_append, hlen]
          exact ⟨Nat.le_refl _, by show 1 ≤ 12 + 1; decide⟩
        have oE : Off p H2 (upd (upd (upd H4 t (.tup [.str yb, .str ya])) t2 (.tup [.str x, .ref t])) l7 (.lst (xs7 ++ [.ref t2]))) := ((oH4.trans ft).trans ft2).upd0 l72
        have hpE := hpt2.upd (o := .lst (xs7 ++ [.ref t2])) nl7
        generalize upd (upd (upd H4 t (.tup [.str yb, .str ya])) t2 (.tup [.str x, .ref t])) l7 (.lst (xs7 ++ [.ref t2])) = HE at dE oE hpE ⊢
        generalize ds7 ++ [.tuple [.str x, .tuple [.str yb, .str ya]]] = dsE at dE hBE lE
      case' refine_2 =>
        have dE := d9
        have hBE := hB
        have lE : ds7.length ≤ 13 ∧ 1 ≤ ds7.length := by omega
        have oE := oH4
        have hpE := hp4'
        generalize H4 = HE at dE oE hpE ⊢
        generalize ds7 = dsE at dE hBE lE
      all_goals
        have dsE1 := dk2.same (off_same oE)
        refine Ev.ret (H0 := HE) (c := 1) (D := fun d => kindsD (rows.map (·.1)) d = false ∧ nl d = true) (Ev.mono (c := 0 + (0 + 1 + 0) + 0) (Ev.cat (k := 500) (m := 400) (c := 0 + (0 + 1 + 0)) (c' := 0) (Ev.cat (k := 400) (m := 1) (c := 0) (c' := 0 + 1 + 0) (Ev.upTo (m := at_) rfl dsE1 fun H R h => ⟨_, rfl, _, rfl, h⟩) (Ev.lst (c := 0 + 1 + 0) (Evs.cons (Ev.one (B := InN (rows.map (·.1))) rfl (Ev.mono (Ev.var rfl dE) (Nat.le_refl _) (by rintro _ rfl; exact ⟨dsE, rfl, hBE, lE.2, by omega⟩))) Evs.nil) (by rintro _ ⟨_, _, rfl, _, rfl⟩; show 1 ≤ 1000; decide)) ?c1 ?c2 (by decide)) (Ev.from_ (m := at_ + 1) rfl dsE1 ?c3 ?c4) ?c5 ?c6 (by decide)) (by decide) ?c7) (Off.refl _ _) hpE (by omega) (fun v d H' hd dt o' hp' => k v d H' hd.1 hd.2 dt (hp'.mono (by omega)) (((oB.trans o2).trans oE).trans o'))
        case c1 =>
          rintro _ rfl
          exact ⟨_, rfl, by rw [List.length_take, List.length_map]; omega⟩
        case c2 =>
          rintro _ ⟨_, rfl, _, _, rfl, _, rfl⟩
          exact ⟨_, rfl, Nat.le_refl _⟩
        case c3 =>
          rw [List.length_map]
          omega
        case c4 => exact fun H R h => ⟨_, rfl, _, _, rfl, rfl, _, rfl, h⟩
        case c5 =>
          rintro _ ⟨_, _, rfl, e, _, e2, _, _, rfl, _, rfl⟩
          injection e with e
          injection e2 with e2
          subst e e2
          exact ⟨_, rfl, by rw [List.length_append, List.length_take, List.length_map]; show _ + 1 ≤ 500; omega⟩
        case c6 =>
          rintro _ rfl
          exact ⟨_, rfl, by rw [List.length_drop, List.length_map]; omega⟩
        case c7 =>
          rintro _ ⟨_, _, rfl, ⟨_, _, ea, eb, _, ec, _, _, rfl, hb, rfl⟩, ed⟩
          injection ea with ea
          injection eb with eb
          injection ec with ec
          injection ed with ed
          subst ea eb ec ed
          refine ⟨kbad_mem (List.mem_append_left _ (List.mem_append_right _ List.mem_cons_self)) hb.1, ?_⟩
          rw [List.append_assoc, ← List.map_take, ← List.map_drop]
          exact (tups_kinds _).mid (tups_kinds _) hb.2
end
end Toy
set_option Elab.async false
set_option linter.all false
set_option maxRecDepth 100000
set_option maxHeartbeats 4000000
namespace Toy
open PySem PySem.Spec PyProof.Rows L2
def rIsH2 (K : PySem.W.Frag) (C a : Addr) (cls : Value) (d : Option Addr) : List V → Hp → VK → Prop := fun xs H Q => ∃ dd, cls = .ref C ∧ d = some dd ∧ rIsH K C a dd xs H Q
theorem call_isH2 {X : Cx} {C a : Addr} {oe : Obj} {cls : Value} {d : Option Addr} {pn : List (Addr × Obj)} (T : L2.ExcC X.K C) (hz : Zc cls d oe) (hf : ∃ vs, oe.data = .fields vs) :
    CallR (X.suite a ((a, oe) :: pn)) (.builtin "isinstance") (rIsH2 X.K C a cls d) := by
  intro pins s σ H xs us Q I r h
  obtain ⟨dd, ec, ed, h⟩ := h
  exact call_isH T hz hf ec ed pins s σ H xs us Q I r h
/-- what is told of these sorts and kinds -/
def resD (sd kd : PyData) : PyData :=
  if sortsD sd = true then (if kindsD (keysD sd) kd = true then .tuple [.str "told", .tuple [.list (listO sd), .list (listO kd)], .bool true] else .tuple [.str "none", .str "kinds", .bool false]) else .tuple [.str "none", .str "sorts", .bool false]
def spTold : Sp := fun vs H Q _ => ∃ (sv kv : V) (sd kd : PyData), vs = [sv, kv] ∧ Dt H sv sd ∧ Dt H kv kd ∧ ∀ v H', Dt H' v (resD sd kd) → Same H H' → Q v H'
structure ToldC (K : PySem.W.Frag) (mg : Str → Option Value) (C CN CD CW CE fX fI : Addr) : Prop where
  st : StkC K mg C CN fX
  mak : Mk K C fI
  ex : L2.ExcC K CN
  xf : XfC K CN
  ee : PySem.W.exmOne K (.ref CN) (.ref CN) = some true
  mD : mg "NoDrawing" = some (.ref CD)
  mW : mg "NoWeights" = some (.ref CW)
  mE : mg "EndError" = some (.ref CE)
  kDW : PySem.W.kitAny K (.ref CN) [.ref CD, .ref CW] = some false
  kE : PySem.W.kitOne K (.ref CN) (.ref CE) = some true
section
variable {P : Program} {w : World} {K : PySem.W.Frag} {mg : Str → Option Value} {base : Heap}
abbrev toN : List Str := ["_law_sorts", "_law_kinds", "_law_stock_here", "e"]
theorem scTold : FnScope toN ["_law_sorts", "_law_kinds"] (defScope sTold) := ⟨rfl, rfl, rfl, by decide +kernel, rfl, by decide +kernel, by decide +kernel⟩
theorem ok_told {f fI fX C CN CD CW CE : Addr} {fd fdI : FuncData} (F : Fun K "_law_told" "_law_told" sTold f fd) (M : Mods mg) (T : ToldC K mg C CN CD CW CE fX fI)
    (GI : FnOk P w K mg base (L2.CX P w) 5 fI fdI ["self", "sorts", "kinds"] (spInit C CN)) (bI : Binds K fdI ["self", "sorts", "kinds"] []) :
    FnOk P w K mg base CX0 7 f fd ["_law_sorts", "_law_kinds"] spTold := by
  refine F.ok scTold (fun vs H Q E h => ?_) (fun cdv A outer s H vs Q E hr h => ?_)
  · obtain ⟨sv, kv, sd, kd, rfl, _⟩ := h
    rfl
  · obtain ⟨sv, kv, sd, kd, rfl, hs, hk, k⟩ := h
    have hr6 : Room 6 _ := hr.mono (by decide)
    refine ⟨_, pss_cons (ps_try_first (i := 3) (n := "e") (c := .ref CN) (tb := fun W => tAsg (tMakeS C (spInit C CN) (WE W) (tCons (tVar 0) (tCons (tVar 1) tNil))) (gName 2)) rfl rfl scTold.nd rfl rfl ⟨rfl, by decide, .inl T.st.mgN⟩
        (fun W pn xe tk _ => pss_one (ps_set (i := 2) scTold.nd rfl (Or.inl rfl) (pe_makeS T.mak GI hr6 (by rfl) T.st.mgC bI (fun σ => passAt tk σ) (pa_cons (pv 0) (pa_cons (pv 1) pa_nil)))))
        (fun a oe cls d pn hz hf => pss_one (ps_ret (pe_tup (pa_cons pe_str (pa_cons (pe_xf T.xf T.st.noP hz hf (pv 3)) (pa_cons (pe_or (pe_callB (call_isH2 T.ex hz hf) (by rfl) M.isi (by decide +kernel) (pa_cons (pv 3) (pa_cons (pe_tup (pa_cons (pe_gref (by rfl) T.mD) (pa_cons (pe_gref (by rfl) T.mW) pa_nil))) pa_nil)))
            (pe_one (pe_not (pe_callB (call_isH2 T.ex hz hf) (by rfl) M.isi (by decide +kernel) (pa_cons (pv 3) (pa_cons (pe_gref (by rfl) T.mE) pa_nil)))))) pa_nil)))))))
      (pss_one (ps_ret (pe_tup (pa_cons pe_str (pa_cons (pe_tup (pa_cons (pe_fld (pv 2) rfl) (pa_cons (pe_fld (pv 2) rfl) pa_nil))) (pa_cons (pe_and (pe_callB (call_isd (T := "list")) (by rfl) M.isi (by decide +kernel) (pa_cons (pe_fld (pv 2) rfl) (pa_cons (pe_bltn (v := .ty "list") (by rfl) M.lst_ (by decide +kernel) rfl) pa_nil)))
          (pe_one (pe_callB (call_isd (T := "list")) (by rfl) M.isi (by decide +kernel) (pa_cons (pe_fld (pv 2) rfl) (pa_cons (pe_bltn (v := .ty "list") (by rfl) M.lst_ (by decide +kernel) rfl) pa_nil))))) pa_nil)))))), ?_⟩
    have raised : ∀ (part : Str) (x : Addr) (H2 H' : Hp) (dd : Addr) (D : Ends), okS part → Same H H2 → Same H2 H' → H' dd = some (.xd [("part", .str part)]) → (∀ v H', Dt H' v (.tuple [.str "none", .str part, .bool false]) → Same H H' → D.rt v H') →
        wFirst K (.ref CN) 3 (fun a cls d => tRet (tTup (tCons (tC (.str "none")) (tCons (tXf a cls d CN "part" (tVar 3)) (tCons (tOrV (tCB (rIsH2 K CN a cls d) (tCons (tVar 3) (tCons (tTup (tCons (tC (.ref CD)) (tCons (tC (.ref CW)) tNil))) tNil))) (tNotV (tCB (rIsH2 K CN a cls d) (tCons (tVar 3) (tCons (tC (.ref CE)) tNil))))) tNil))))) D (.ref CN) (some dd) (L2.start toN [sv, kv]) H' := by
      intro part x H2 H' dd D okp s1 s2 hd kk
      refine ⟨T.ee, fun a na => ?_⟩
      refine ⟨_, rfl, rfl, rfl, dd, _, _, rfl, hd, rfl, ?_⟩
      refine ⟨_, rfl, by show 2 ≤ sizeLine; decide, fun tp ntp => ?_⟩
      have t1 := same_new (o := .tup [.ref CD, .ref CW]) ntp
      refine ⟨dd, rfl, rfl, _, false, rfl, ⟨_, t1 _ _ hd⟩, .inr ⟨tp, _, _, rfl, upd_same, .cons (.own CD) (.cons (.own CW) .nil), T.kDW⟩, ?_⟩
      refine ⟨_, rfl, ?_⟩
      rw [if_neg (by decide)]
      refine ⟨_, rfl, dd, rfl, rfl, _, true, rfl, ⟨_, t1 _ _ hd⟩, .inl ⟨_, .own CE, T.kE⟩, ?_⟩
      refine ⟨_, rfl, ?_⟩
      refine ⟨by show 3 ≤ sizeLine; decide, fun t nt => ?_⟩
      have t2 := same_new (o := .tup [.str "none", .str part, .bl false]) nt
      refine kk _ _ (.tup upd_same (by show 3 ≤ 1000; decide) (.cons (con_s "none" (by decide +kernel)) (.cons (.str part okp) (.cons (.bl false) .nil)))) (((s1.trans s2).trans t1).trans t2)
    refine ⟨_, rfl, _, rfl, fun x dx nx ndx ne => ?_⟩
    have t1 := same_new (o := .own x) ndx
    have nx2 : upd H dx (.own x) x = none := by rw [upd_ne (fun z => ne z.symm)]; exact nx
    have t2 := same_new (o := .ins C dx []) nx2
    have sH := t1.trans t2
    refine ⟨x, dx, sv, kv, sd, kd, rfl, upd_same, hs.same sH, hk.same sH, fun h1 H' d nd s' hd => ?_, fun h1 h2 H' d nd s' hd => ?_, fun h1 h2 H' st nw off => ⟨rfl, ?_⟩⟩
    · refine raised "sorts" x _ H' d _ (by unfold okS; decide +kernel) sH s' hd fun v H'' dt ss => k v H'' ?_ ss
      unfold resD
      rw [if_neg (by rw [h1]; decide)]
      exact dt
    · refine raised "kinds" x _ H' d _ (by unfold okS; decide +kernel) sH s' hd fun v H'' dt ss => k v H'' ?_ ss
      unfold resD
      rw [if_pos h1, if_neg (by rw [h2]; decide)]
      exact dt
    · obtain ⟨⟨dx', l, m, e, dl, dm⟩, f1, f2⟩ := st
      have sF : Same H H' := fun b o eb => off _ _ (sH _ _ eb) (ne_of_none eb nx)
      refine ⟨_, rfl, x, C, dx', _, _, rfl, e, T.st.cl, T.st.nS, sf_sorts l m, _, rfl, x, C, dx', _, _, rfl, e, T.st.cl, T.st.nK, sf_kinds l m, by show 2 ≤ sizeLine; decide, fun t nt => ?_⟩
      have t3 := same_new (o := .tup [.ref l, .ref m]) nt
      have et : upd H' t (.tup [.ref l, .ref m]) t = some (.tup [.ref l, .ref m]) := upd_same
      have e3 := t3 _ _ e
      have dl3 := dl.same t3
      have dm3 := dm.same t3
      refine ⟨_, rfl, x, C, dx', _, _, rfl, e3, T.st.cl, T.st.nS, sf_sorts l m, _, _, true, rfl, dl3, kit_list _, _, rfl, ?_⟩
      rw [if_pos rfl]
      refine ⟨_, rfl, x, C, dx', _, _, rfl, e3, T.st.cl, T.st.nK, sf_kinds l m, _, _, true, rfl, dm3, kit_list _, ?_⟩
      refine ⟨by show 3 ≤ sizeLine; decide, fun t2 nt2 => ?_⟩
      have t4 := same_new (o := .tup [.str "told", .ref t, .bl true]) nt2
      refine k _ _ ?_ ((sF.trans t3).trans t4)
      unfold resD
      rw [if_pos h1, if_pos h2]
      exact .tup upd_same (by show 3 ≤ 1000; decide) (.cons (con_s "told" (by decide +kernel)) (.cons (.tup (t4 _ _ et) (by show 2 ≤ 1000; decide) (.cons (dl3.same t4) (.cons (dm3.same t4) .nil))) (.cons (.bl true) .nil)))
end
end Toy
set_option Elab.async false
set_option linter.all false
set_option maxRecDepth 100000
set_option maxHeartbeats 4000000
namespace L2
open PySem PySem.Spec PyProof.Rows
/-- (..) * 1 is the tuple itself -/
theorem tup_once (q : Addr) (its : Array Value) (m : Nat) (di : Option Addr) (so : Array (Option Value)) (tt : Tok) :
    Meets (Builtin.«tuple.__mul__» ⟨[.ref q, .int 1 tt], []⟩) (fun _ R z => z.heap.get? q = some { cls := .type "tuple", dict := di, data := .seq its m, slots := so } ∧
      R (.ok (.ret (Value.ref q))) z) :=
  .of_wp fun pr ww B R z hh => by
    obtain ⟨h0, g0, d0, t0, o0⟩ := z
    obtain ⟨at_, goes⟩ := hh
    have f1 := AutoSeq1.idx_int
    wp_walk using wpAny_loadPart' at_
    exact ⟨_, rfl, goes⟩
/-- a tuple so many times, from once on -/
def rTimes (K : PySem.W.Frag) : R2 := fun x y H Q => ∃ q m zs, x = .ref q ∧ y = .int m ∧ SqT K H q zs ∧ zs ≠ [] ∧ 1 ≤ m ∧ m ≤ 1000 ∧ zs.length ≤ 1000 ∧ (m = 1 → Q (.ref q) H) ∧ (2 ≤ m → ∀ p, H p = none → Q (.ref p) (upd H p (.tup (List.replicate m.toNat zs).flatten)))
theorem op_times {X : Cx} : OpR X (binaryOp .Mult) (rTimes X.K) := by
  intro pins z σ H x y v u Q I rx ry hh
  obtain ⟨q, m, zs, rfl, rfl, sq, ne, m1, m2, lz, k1, k2⟩ := hh
  by_cases two : 2 ≤ m
  · exact op_repT pins z σ H _ _ v u Q I rx ry ⟨q, m, zs, rfl, rfl, sq, ne, two, m2, lz, k2 two⟩
  · have one : m = 1 := by omega
    subst one
    obtain rfl : v = Value.ref q := rx
    obtain ⟨tt, rfl⟩ := ry
    obtain ⟨its, rr, ⟨⟨cc, di, da, so⟩, at_, ec, n, ed⟩, hs⟩ := I.tuple sq
    simp only at ec ed
    subst ec ed
    exact wpAny_binaryOp_repeat_ref (T := "tuple") (U := "int") (by decide) ⟨_, at_, rfl⟩ (fun z' => typeIs_int z' 1 tt) noFill_tuple_mul F.fills_int_mul F.slot_int_rmul repeat_tuple F.slot_int_index.lookup
      (call_meets F.slot_int_rmul (typeIs_int z 1 tt) F.entry_int_rmul (F.args_int_rmul_2 _ _) (int_rmul_tuple 1 tt q its.toArray n di so)
        ⟨at_, rfl, ⟨_, at_, rfl⟩, call_meets F.slot_tuple_mul ⟨_, at_, rfl⟩ F.entry_tuple_mul (F.args_tuple_mul_2 _ _) (tup_once q its.toArray n di so tt) ⟨at_, ⟨.ref q, H, I, rfl, k1 rfl⟩⟩⟩)
end L2
set_option Elab.async false
set_option linter.all false
set_option maxRecDepth 100000
set_option maxHeartbeats 4000000
namespace Toy
open PySem PySem.Spec PyProof.Rows L2
/-! ### good data -/
theorem keys_T (rows : Rows2) : keysD (.list (rows.map rowT)) = rows.map (·.1) := by
  show ((rows.map rowT).map rowOf).map (·.1) = _
  rw [rowOf_T]
/-- what a stock is made of -/
structure GoodP (sd kd : List PyData) : Prop where
  s : sortsD (.list sd) = true
  k : kindsD (keysD (.list sd)) (.list kd) = true
theorem goodP {rows : Rows2} {ks : List KRow} (g : GoodS rows) (gk : GoodK (rows.map (·.1)) ks) (h1 : 1 ≤ ks.length) (h4 : ks.length ≤ 4) : GoodP (rows.map rowT) (ks.map kindT) := ⟨g.ok, by rw [keys_T]; exact gk.ok h1 h4⟩
/-- the first kind with other ends -/
def turnK (z : Str) : List KRow → List KRow
  | [] => []
  | k :: ks => (k.1, List.replicate (1 + k.2.length % 5) z) :: ks
theorem rep_sorted (z : Str) : ∀ n, sortedS (List.replicate n z) = true
  | 0 => rfl
  | n + 1 => by
    show risingS z (List.replicate n z) = true
    induction n with
    | zero => rfl
    | succ n ih =>
      have e : risingS z (z :: List.replicate n z) = (!ltCps z.cps.toList z.cps.toList && risingS z (List.replicate n z)) := rfl
      have irr : ltCps z.cps.toList z.cps.toList = false := (ltCps_le z z).mpr (List.le_refl _)
      rw [List.replicate_succ, e, irr, ih]
      rfl
theorem turn_good {rows : Rows2} {ks : List KRow} {r : Str × Str} (g : GoodS rows) (gk : GoodK (rows.map (·.1)) ks) (hr : r ∈ rows) : GoodK (rows.map (·.1)) (turnK r.1 ks) := by
  obtain ⟨_, _, gN, _, _⟩ := good_rows g
  cases ks with
  | nil => exact gk
  | cons k ks =>
    refine ⟨gk.nd, fun k' hk' => ?_, fun k' hk' => ?_⟩
    · rcases List.mem_cons.mp hk' with e | h
      · rw [e]
        exact gk.nm k List.mem_cons_self
      · exact gk.nm k' (List.mem_cons_of_mem _ h)
    · rcases List.mem_cons.mp hk' with e | h
      · rw [e]
        have m := Nat.mod_lt k.2.length (by decide : 5 > 0)
        refine ⟨?_, ?_, fun x hx => ?_, rep_sorted _ _⟩
        · show 1 ≤ (List.replicate _ _).length
          rw [List.length_replicate]
          omega
        · show (List.replicate _ _).length ≤ 5
          rw [List.length_replicate]
          omega
        · rw [List.eq_of_mem_replicate hx]
          exact ⟨(gN r hr).1, List.mem_map_of_mem (f := (·.1)) hr⟩
      · exact gk.en k' (List.mem_cons_of_mem _ h)
theorem flat_refl {ds : List PyData} (f : Flat ds) {H : Hp} {xs : List V} (r : DtAll H xs ds) : PyData.eqv (.list ds) (.list ds) = true := PySem.SeqAt.eqv_refl _ (show PyData.canLayAll0 ds = true from r.can f.nd)
/-! ### making a stock of good data -/
def noE : L2.St → XK := fun _ _ _ _ => False
theorem passN {X : Cx} (σ : L2.St) : PassesAt (L2.CX X.prog X.w) X σ (noE σ) := fun _ _ _ _ _ _ ⟨_, _, _, _, _, _, _, _, _, _, _, _, h⟩ => h.elim
theorem make_ok {C CN x dx : Addr} {H : Hp} {R : VK} {E : XK} {sv kv : V} {ss ks : List PyData} (nx : H x = none) (ndx : H dx = none) (ne : dx ≠ x) (hs : Dt H sv (.list ss)) (hk : Dt H kv (.list ks)) (g : GoodP ss ks)
    (q : ∀ H', StkAt C H' x ss ks → StkNew C H H' x sv kv → Same H H' → R .non H') :
    spInit C CN [.ref x, sv, kv] (upd (upd H dx (.own x)) x (.ins C dx [])) R E := by
  have t1 := same_new (o := .own x) ndx
  have nx2 : upd H dx (.own x) x = none := by rw [upd_ne (fun z => ne z.symm)]; exact nx
  have t2 := same_new (o := .ins C dx []) nx2
  have sH := t1.trans t2
  refine ⟨x, dx, sv, kv, _, _, rfl, upd_same, hs.same sH, hk.same sH, fun h1 => ?_, fun h1 h2 => ?_, fun h1 h2 H' st nw off => ?_⟩
  · rw [g.s] at h1
    cases h1
  · rw [g.k] at h2
    cases h2
  · refine q H' st ?_ (fun b o eb => off _ _ (sH _ _ eb) (ne_of_none eb nx))
    obtain ⟨dx', l, m, a, b, xs, ys, e1, e2, e3, n1, n2, rfl, rfl, e4, e5⟩ := nw
    refine ⟨dx', l, m, a, b, xs, ys, e1, e2, e3, sH.free n1, sH.free n2, rfl, rfl, ?_, ?_⟩
    · cases hs with
      | lst e0 _ _ =>
        have q := sH _ _ e0
        rw [e4] at q
        cases q
        exact e0
    · cases hk with
      | lst e0 _ _ =>
        have q := sH _ _ e0
        rw [e5] at q
        cases q
        exact e0
end Toy
set_option Elab.async false
set_option linter.all false
set_option maxRecDepth 100000
set_option maxHeartbeats 4000000
namespace Toy
open PySem PySem.Spec PyProof.Rows L2
structure AlikeC (K : PySem.W.Frag) (C fQ : Addr) : Prop where
  q : EqC K C fQ
  n0 : PySem.W.notFirst K C (.ref C) = true
  n1 : PySem.W.notFirst K C (.type "tuple") = true
  n2 : PySem.W.notFirst K C (.type "int") = true
  n3 : PySem.W.notFirst K C (.type "str") = true
  k1 : PySem.W.kitOne K (.type "tuple") (.ref C) = some false
  k2 : PySem.W.kitOne K (.type "int") (.ref C) = some false
  k3 : PySem.W.kitOne K (.type "str") (.ref C) = some false
def spAlike : Sp := fun vs H Q _ => ∃ (ls lk : Addr) (rows : Rows2) (ks : List KRow), vs = [.ref ls, .ref lk] ∧ GoodS rows ∧ GoodK (rows.map (·.1)) ks ∧ 1 ≤ ks.length ∧ ks.length ≤ 4 ∧ Dt H (.ref ls) (.list (rows.map rowT)) ∧ Dt H (.ref lk) (.list (ks.map kindT)) ∧
  ∀ H', Same H H' → Q (.bl true) H'
section
variable {P : Program} {w : World} {K : PySem.W.Frag} {mg : Str → Option Value} {base : Heap}
theorem times_ok {H : Hp} {Q : VK} {t : Addr} {z : V} {n : Nat} {m : Int} (hm : m = (n : Int)) (h1 : 1 ≤ n) (h9 : n ≤ 1000) (e : H t = some (.tup [z])) (q : ∀ u H', Same H H' → H' u = some (.tup (List.replicate n z)) → Q (.ref u) H') : rTimes K (.ref t) (.int m) H Q := by
  subst hm
  refine ⟨t, _, _, rfl, rfl, SqT.of e, (fun z => nomatch z), by omega, by omega, by show 1 ≤ 1000; decide, fun one => ?_, fun two p np => ?_⟩
  · have e1 : n = 1 := by omega
    exact q t H (Same.refl _) (by rw [e1]; exact e)
  · refine q p _ (same_new np) ?_
    rw [upd_same, Int.toNat_natCast]
    have e2 : (List.replicate n [z]).flatten = List.replicate n z := by
      clear h1 h9 two q np
      induction n with
      | zero => rfl
      | succ n ih => rw [List.replicate_succ, List.flatten_cons, ih, List.replicate_succ]; rfl
    rw [e2]
theorem eqS {C fQ CN fX : Addr} {T : StkC K mg C CN fX} {neg : Bool} {H : Hp} {Q : VK} {x y : Addr} {ss ks ss' ks' : List PyData} (hn : PySem.W.notFirst K C (.ref C) = true) (s1 : StkAt C H x ss ks) (s2 : StkAt C H y ss' ks') (b c : Bool) (hc : (if neg = true then !b else b) = c)
    (hb : (PyData.eqv (.list ss) (.list ss') && PyData.eqv (.list ks) (.list ks')) = b) (q : Q (.bl c) H) : rEqO K C (spSEq K C) E0 neg (.ref x) (.ref y) H Q := by
  have ty := stk_ty T s2
  obtain ⟨⟨dx, l, m, e, _⟩, _, _⟩ := id s1
  exact ⟨x, dx, _, _, rfl, e, ty, hn, x, .ref y, ss, ks, rfl, s1, .inl ⟨y, ss', ks', rfl, s2, by rw [hb]; exact ⟨b, rfl, by rw [hc]; exact q⟩⟩⟩
theorem eqX {C : Addr} {neg : Bool} {H : Hp} {Q : VK} {x : Addr} {v : V} {t : Value} {ss ks : List PyData} (hn : PySem.W.notFirst K C t = true) (hk : PySem.W.kitOne K t (.ref C) = some false) (s1 : StkAt C H x ss ks) (ty : TyX K H v t)
    (c : Bool) (hc : (if neg = true then !false else false) = c) (q : Q (.bl c) H) : rEqO K C (spSEq K C) E0 neg (.ref x) v H Q := by
  obtain ⟨⟨dx, l, m, e, _⟩, _, _⟩ := id s1
  exact ⟨x, dx, _, _, rfl, e, ty, hn, x, v, ss, ks, rfl, s1, .inr ⟨t, ty, hk, ⟨false, rfl, by rw [hc]; exact q⟩⟩⟩
abbrev alN : List Str := ["_law_sorts", "_law_kinds", "_law_one_here", "_law_turned"]
theorem scAlike : FnScope alN ["_law_sorts", "_law_kinds"] (defScope sAlike) := ⟨rfl, rfl, rfl, by decide +kernel, rfl, by decide +kernel, by decide +kernel⟩
theorem ok_alike {f fI fX fQ C CN CD CW CE : Addr} {fd fdI fdQ : FuncData} (F : Fun K "_law_alike" "_law_alike" sAlike f fd) (M : Mods mg) (T : ToldC K mg C CN CD CW CE fX fI) (A : AlikeC K C fQ)
    (GI : FnOk P w K mg base (L2.CX P w) 5 fI fdI ["self", "sorts", "kinds"] (spInit C CN)) (bI : Binds K fdI ["self", "sorts", "kinds"] [])
    (GE : FnOk P w K mg base CX0 1 fQ fdQ ["self", "other"] (spSEq K C)) (bE : Binds K fdQ ["self", "other"] []) :
    FnOk P w K mg base CX0 7 f fd ["_law_sorts", "_law_kinds"] spAlike := by
  refine F.ok scAlike (fun vs H Q E h => ?_) (fun cdv A_ outer s H vs Q E hr h => ?_)
  · obtain ⟨ls, lk, rows, ks, rfl, _⟩ := h
    rfl
  · obtain ⟨ls, lk, rows, ks, rfl, gd, gk, l1k, l4k, hs, hk, k⟩ := h
    have hr6 : Room 6 _ := hr.mono (by decide)
    have hr1 : Room 1 _ := hr.mono (by decide)
    have hr2 : Room 2 _ := hr.mono (by decide)
    refine ⟨_, (pss_cons (ps_set (i := 2) scAlike.nd rfl (Or.inl rfl) (pe_makeS (E := noE) T.mak GI hr6 (by rfl) T.st.mgC bI (fun σ => passN σ) (pa_cons (pv 0) (pa_cons (pv 1) pa_nil))))
      (pss_cons (ps_set (i := 3) scAlike.nd rfl (Or.inl rfl) (pe_op op_cat (pe_lst (pa_cons (pe_tup (pa_cons (pe_ix ix_tup (pe_ix ix_list (pv 1) pe_int (fun _ _ => rfl)) pe_int (fun _ _ => rfl)) (pa_cons (pe_op op_times (pe_tup (pa_cons (pe_ix ix_tup (pe_ix ix_list (pv 0) pe_int (fun _ _ => rfl)) pe_int (fun _ _ => rfl)) pa_nil)) (pe_op op_add pe_int (pe_op op_mod (pe_callB call_len_seq (by rfl) M.len PySem.boot_len (pa_cons (pe_ix ix_tup (pe_ix ix_list (pv 1) pe_int (fun _ _ => rfl)) pe_int (fun _ _ => rfl)) pa_nil)) pe_int))) pa_nil))) pa_nil)) (pe_slice sl_list (pv 1) (po_some pe_int) po_none)))
      (pss_cons (ps_if (PW.pt (pw_or (pt_not (pt_cmpR (op_eqO A.q GE hr1 bE pass0) (pv 2) (pe_makeS (E := noE) T.mak GI hr6 (by rfl) T.st.mgC bI (fun σ => passN σ) (pa_cons (pe_callTy call_list_of (by rfl) M.lst_ (by decide +kernel) (pa_cons (pv 0) pa_nil)) (pa_cons (pe_callTy call_list_of (by rfl) M.lst_ (by decide +kernel) (pa_cons (pv 1) pa_nil)) pa_nil))) (nomark _))) (pw_or1 (pt_cmpR (op_neO A.q GE hr2 bE pass0) (pv 2) (pe_makeS (E := noE) T.mak GI hr6 (by rfl) T.st.mgC bI (fun σ => passN σ) (pa_cons (pv 0) (pa_cons (pv 1) pa_nil))) (nomark _))))) (pss_one (ps_ret pe_bl)) pss_nil)
      (pss_cons (ps_if (PW.pt (pw_and (pt_cmpR (op_neD hr.units) (pv 3) (pv 1) (nomark _)) (pw_and1 (pt_cmpR (op_eqO A.q GE hr1 bE pass0) (pv 2) (pe_makeS (E := noE) T.mak GI hr6 (by rfl) T.st.mgC bI (fun σ => passN σ) (pa_cons (pv 0) (pa_cons (pv 3) pa_nil))) (nomark _))))) (pss_one (ps_ret pe_bl)) pss_nil)
      (pss_one (ps_ret (pe_and (pe_not (pe_cmpR (op_eqO A.q GE hr1 bE pass0) (pv 2) (pe_tup (pa_cons (pv 0) (pa_cons (pv 1) pa_nil))) (nomark _))) (pe_and (pe_not (pe_cmpR (op_eqO A.q GE hr1 bE pass0) (pv 2) pe_int (nomark _))) (pe_one (pe_not (pe_cmpR (op_eqO A.q GE hr1 bE pass0) (pv 2) pe_str (nomark _)))))))))))), ?_⟩
    have gp := goodP gd gk l1k l4k
    obtain ⟨g1, g3, gN_, gnd, gmu⟩ := good_rows gd
    refine ⟨_, rfl, _, rfl, fun x1 dx1 nx1 ndx1 ne1 => make_ok nx1 ndx1 ne1 hs hk gp (fun H1 st1 _ s1 => ⟨rfl, ?_⟩)⟩
    have hs1 := hs.same s1
    have hk1 := hk.same s1
    obtain ⟨xs, hls, lxs, rxs⟩ := dt_list hs1
    obtain ⟨xk, hlk, lxk, rxk⟩ := dt_list hk1
    have lenx : xs.length = rows.length := by rw [rxs.len, List.length_map]
    have lenk : xk.length = ks.length := by rw [rxk.len, List.length_map]
    obtain ⟨q0, r0, hr0, ex0, eq0⟩ := row_at rxs (i := 0) (by omega)
    obtain ⟨qk, te, k0, hk0, ek0, eqk, dte⟩ := kind_at rxk (i := 0) (by omega)
    have r0m := List.mem_of_getElem? hr0
    have k0m := List.mem_of_getElem? hk0
    have gt := turn_good gd gk r0m
    obtain ⟨zs, hte, lz⟩ : ∃ zs, H1 te = some (.tup zs) ∧ zs.length = k0.2.length := by
      cases dte with
      | tup e l r => exact ⟨_, e, by rw [r.len, List.length_map]⟩
    have mod5 := Nat.mod_lt k0.2.length (by decide : 5 > 0)
    refine ⟨_, rfl, lk, xk, 0, _, rfl, rfl, SqL.of hlk, at_of rfl ek0, qk, _, 0, _, rfl, rfl, SqT.of eqk, ix0, ?_⟩
    refine ⟨_, rfl, ls, xs, 0, _, rfl, rfl, SqL.of hls, at_of rfl ex0, q0, _, 0, _, rfl, rfl, SqT.of eq0, ix0, by show 1 ≤ sizeLine; decide, fun t nt => ?_⟩
    have t1 := same_new (o := .tup [.str r0.1]) nt
    refine ⟨_, rfl, lk, xk, 0, _, rfl, rfl, SqL.of (t1 _ _ hlk), at_of rfl ek0, qk, _, 1, _, rfl, rfl, SqT.of (t1 _ _ eqk), ix1, te, zs, rfl, .inr (SqT.of (t1 _ _ hte)), _, _, rfl, rfl, by show (0 : Int) < 5; decide, _, _, rfl, rfl, ?_⟩
    refine times_ok (n := 1 + k0.2.length % 5) (by rw [lz]; rfl) (by omega) (by omega) upd_same fun u H2 s2 hu => ?_
    have s12 := t1.trans s2
    refine ⟨by show 2 ≤ sizeLine; decide, fun tk ntk => ?_⟩
    have t3 := same_new (o := .tup [.str k0.1, .ref u]) ntk
    have htk : upd H2 tk (.tup [.str k0.1, .ref u]) tk = some (.tup [.str k0.1, .ref u]) := upd_same
    have hu3 := t3 _ _ hu
    generalize upd H2 tk (.tup [.str k0.1, .ref u]) = H3 at t3 htk hu3 ⊢
    refine ⟨by show 1 ≤ sizeLine; decide, fun l1 nl1 => ?_⟩
    have t4 := same_new (o := .lst [.ref tk]) nl1
    have hl1 : upd H3 l1 (.lst [.ref tk]) l1 = some (.lst [.ref tk]) := upd_same
    generalize upd H3 l1 (.lst [.ref tk]) = H4 at t4 hl1 ⊢
    have s14 := ((s12.trans t3).trans t4)
    refine ⟨_, rfl, 1, rfl, lk, xk, rfl, SqL.of (s14 _ _ hlk), fun l2 nl2 => ?_⟩
    have t5 := same_new (o := .lst (cutV xk (some 1) none)) nl2
    have hl2 : upd H4 l2 (.lst (cutV xk (some 1) none)) l2 = some (.lst (cutV xk (some 1) none)) := upd_same
    have ecut : cutV xk (some 1) none = xk.drop 1 := cut_from xk 1 (by omega)
    rw [ecut] at t5 hl2 ⊢
    generalize upd H4 l2 (.lst (xk.drop 1)) = H5 at t5 hl2 ⊢
    refine ⟨l1, l2, _, _, rfl, rfl, t5 _ _ hl1, hl2, ?_, fun lt nlt => ?_⟩
    · rw [List.length_drop]
      exact Nat.le_trans (by show 1 + (xk.length - 1) ≤ 1000; omega) (by decide)
    have t6 := same_new (o := .lst ([.ref tk] ++ xk.drop 1)) nlt
    have hlt : upd H5 lt (.lst ([.ref tk] ++ xk.drop 1)) lt = some (.lst ([.ref tk] ++ xk.drop 1)) := upd_same
    generalize upd H5 lt (.lst ([.ref tk] ++ xk.drop 1)) = H6 at t6 hlt ⊢
    have s16 := (s14.trans t5).trans t6
    have dturn : Dt H6 (.ref lt) (.list ((turnK r0.1 ks).map kindT)) := by
      match ks, hk0, rxk with
      | k1 :: ks', hk0, rxk =>
        cases hk0
        cases rxk with
        | cons h1 r1 =>
          refine .lst hlt ?_ (.cons (.tup ((t4.trans t5).trans t6 _ _ htk) (by show 2 ≤ 1000; decide) (.cons (.str _ (okS_name (gk.nm _ k0m))) (.cons (.tup (xs := (List.replicate (1 + k0.2.length % 5) r0.1).map V.str) ?_ ?_ (DtAll.strs _ fun x hx => ?_)) .nil))) (r1.same s16))
          · show (_ :: _).length ≤ 1000
            rw [List.length_cons] at lxk ⊢
            exact lxk
          · rw [List.map_replicate]
            exact ((t4.trans t5).trans t6) _ _ hu3
          · rw [List.length_map, List.length_replicate]
            omega
          · rw [List.eq_of_mem_replicate hx]
            exact okS_name (gN_ r0 r0m).1
    have gpt := goodP gd gt (by match ks, hk0 with | k1 :: ks', _ => exact l1k) (by match ks, hk0 with | k1 :: ks', _ => exact l4k)
    have st6 := st1.same s16
    have hs6 := hs1.same s16
    have hk6 := hk1.same s16
    have e1 : PyData.eqv (.list (rows.map rowT)) (.list (rows.map rowT)) = true := flat_refl st1.f1 rxs
    have e2 : PyData.eqv (.list (ks.map kindT)) (.list (ks.map kindT)) = true := flat_refl st1.f2 rxk
    refine ⟨_, rfl, _, rfl, ls, xs, rfl, .inl (SqL.of (s16 _ _ hls)), fun la nla => ?_⟩
    have t7 := same_new (o := .lst xs) nla
    have hla : Dt (upd H6 la (.lst xs)) (.ref la) (.list (rows.map rowT)) := .lst upd_same lxs (rxs.same (s16.trans t7))
    generalize upd H6 la (.lst xs) = H7 at t7 hla ⊢
    refine ⟨_, rfl, lk, xk, rfl, .inl (SqL.of (t7 _ _ (s16 _ _ hlk))), fun lb nlb => ?_⟩
    have t8 := same_new (o := .lst xk) nlb
    have hlb : Dt (upd H7 lb (.lst xk)) (.ref lb) (.list (ks.map kindT)) := .lst upd_same lxk (rxk.same ((s16.trans t7).trans t8))
    have hla8 := hla.same t8
    generalize upd H7 lb (.lst xk) = H8 at t8 hlb hla8 ⊢
    refine fun x2 dx2 nx2 ndx2 ne2 => make_ok nx2 ndx2 ne2 hla8 hlb gp (fun H9 st2 _ s9 => ⟨rfl, ?_⟩)
    have s69 := (t7.trans t8).trans s9
    refine eqS (T := T.st) (fQ := fQ) A.n0 (st6.same s69) st2 true true rfl (by rw [e1, e2]; rfl) ⟨_, rfl, ?_⟩
    dsimp only
    rw [if_neg (by decide)]
    refine ⟨_, rfl, _, rfl, _, rfl, fun x3 dx3 nx3 ndx3 ne3 => make_ok nx3 ndx3 ne3 (hs6.same s69) (hk6.same s69) gp (fun H10 st3 _ s10 => ⟨rfl, ?_⟩)⟩
    have s610 := s69.trans s10
    refine eqS (T := T.st) (fQ := fQ) A.n0 (st6.same s610) st3 true false rfl (by rw [e1, e2]; rfl) ⟨_, rfl, ?_⟩
    dsimp only
    rw [if_neg (by decide)]
    have st10 := st6.same s610
    have dt10 := dturn.same s610
    have hs10 := hs6.same s610
    have hk10 := hk6.same s610
    obtain ⟨xt, hxt, lxt, rxt⟩ := dt_list dt10
    have ft : Flat ((turnK r0.1 ks).map kindT) := kinds_flat gpt.k
    refine ⟨_, rfl, _, rfl, _, _, dt10.dp (by exact ft.nd), hk10.dp (by exact st1.f2.nd), ft.shape rxt, st1.f2.shape rxk, _, rfl, ite2 (fun hne => ?_) (fun _ => ?_)⟩
    case' refine_1 =>
      have eqf : PyData.eqv (.list (ks.map kindT)) (.list ((turnK r0.1 ks).map kindT)) = false := by
        rw [PySem.W.eqv_comm]
        simpa using hne
      refine ⟨_, rfl, _, rfl, _, rfl, fun x4 dx4 nx4 ndx4 ne4 => make_ok nx4 ndx4 ne4 hs10 dt10 gpt (fun H11 st4 _ s11 => ⟨rfl, ?_⟩)⟩
      refine eqS (T := T.st) (fQ := fQ) A.n0 (st10.same s11) st4 false false rfl (by rw [eqf, Bool.and_false]) ⟨_, rfl, ?_⟩
      dsimp only
      rw [if_neg (by decide)]
      have st12 := st10.same s11
      have sAll := (s1.trans s16).trans (s610.trans s11)
      generalize H11 = H12 at st12 sAll ⊢
    case' refine_2 =>
      dsimp only
      rw [if_neg (by decide)]
      have st12 := st10
      have sAll := (s1.trans s16).trans s610
      generalize H10 = H12 at st12 sAll ⊢
    all_goals
      refine ⟨_, rfl, _, rfl, _, rfl, by show 2 ≤ sizeLine; decide, fun tq ntq => ?_⟩
      have t9 := same_new (o := .tup [.ref ls, .ref lk]) ntq
      refine eqX A.n1 A.k1 (st12.same t9) (.base (.tup upd_same)) false rfl ⟨_, rfl, _, rfl, ?_⟩
      dsimp only
      rw [if_pos (by decide)]
      refine ⟨_, rfl, ?_⟩
      delta tC
      dsimp only
      refine eqX A.n2 A.k2 (st12.same t9) (.base (.int 5)) false rfl ⟨_, rfl, _, rfl, ?_⟩
      try dsimp only
      rw [if_pos (by decide)]
      refine ⟨_, rfl, ?_⟩
      try delta tC
      try dsimp only
      refine eqX A.n3 A.k3 (st12.same t9) (.base (.str "stock")) false rfl ⟨_, rfl, ?_⟩
      exact k _ (sAll.trans t9)
end
end Toy
set_option Elab.async false
set_option linter.all false
set_option maxRecDepth 100000
set_option maxHeartbeats 4000000
namespace Toy
open PySem PySem.Spec PyProof.Rows L2
def spLaw (K : PySem.W.Frag) : Sp := fun vs H Q _ => ∃ (a : Addr) (ns : List Int), vs = [.ref a] ∧ SqL K H a (ns.map V.int) ∧ ns.length ≤ 63 ∧ ∀ H', Q (.bl true) H'
theorem cut_ints (ns : List Int) (z : V) (h : z ∈ cutV (ns.map V.int) none (some 10)) : ∃ n : Int, z = .int n := by
  unfold cutV at h
  have h2 := List.mem_of_mem_drop (List.mem_of_mem_take h)
  rw [List.mem_map] at h2
  obtain ⟨n, _, e⟩ := h2
  exact ⟨n, e.symm⟩
/-- how deep, and without dicts -/
structure Low (n : Nat) (d : PyData) : Prop where
  nd : noDict d = true
  dep : PyData.depth d ≤ n
theorem low_list {ds : List PyData} (f : Flat ds) : Low 9 (.list ds) := ⟨f.nd, by have := f.dep; show PyData.depthAll ds + 1 ≤ 9; omega⟩
theorem low2l {a b : PyData} (h : Low 9 a) (g : Low 9 b) : Low 20 (.list [a, b]) := ⟨by simp [noDict, noDicts, h.nd, g.nd], by have := h.dep; have := g.dep; simp [PyData.depth, PyData.depthAll]; omega⟩
theorem low2t {a b : PyData} (h : Low 9 a) (g : Low 9 b) : Low 20 (.tuple [a, b]) := ⟨by simp [noDict, noDicts, h.nd, g.nd], by have := h.dep; have := g.dep; simp [PyData.depth, PyData.depthAll]; omega⟩
theorem low3 {a b : PyData} (h : Low 9 a) (g : Low 9 b) : Low 20 (.tuple [.str "told", .tuple [a, b], .bool true]) := ⟨by simp [noDict, noDicts, h.nd, g.nd], by have := h.dep; have := g.dep; simp [PyData.depth, PyData.depthAll]; omega⟩
theorem neD_same {K : PySem.W.Frag} {H : Hp} {Q : VK} {x y : V} {d : PyData} (h1 : Dt H x d) (h2 : Dt H y d) (l : Low 20 d) (q : Q (.bl false) H) : rNeD K x y H Q := by
  have c := h1.can l.nd
  have sh : SeqAt.shaped d = true := by
    unfold SeqAt.shaped
    rw [c, decide_eq_true (by have := l.dep; omega)]
    rfl
  exact ⟨d, d, h1.dp l.nd, h2.dp l.nd, sh, sh, by rw [PySem.SeqAt.eqv_refl d c]; exact q⟩
section
variable {P : Program} {w : World} {K : PySem.W.Frag} {mg : Str → Option Value} {base : Heap}
abbrev lawN : List Str := ["_law_script", "_law_cell", "_law_source", "_law_odd", "_law_sorts", "_law_kinds", "_law_handed", "_law_part", "_law_stock_here"]
theorem scLaw : FnScope lawN ["_law_script"] (defScope sLaw) := ⟨rfl, rfl, rfl, by decide +kernel, rfl, by decide +kernel, by decide +kernel⟩
theorem ok_law {f fI fX C CN CD CW CE fS fN fK fY fZ fT fA : Addr} {fd fdI fdS fdN fdK fdY fdZ fdT fdA : FuncData} (F : Fun K "law" "law" sLaw f fd) (M : Mods mg) (T : ToldC K mg C CN CD CW CE fX fI)
    (GI : FnOk P w K mg base (L2.CX P w) 5 fI fdI ["self", "sorts", "kinds"] (spInit C CN)) (bI : Binds K fdI ["self", "sorts", "kinds"] [])
    (GS : FnOk P w K mg base CX0 1 fS fdS ["_law_cell"] spSrc) (kS : PySem.W.keepIn K (.ref fS) = true) (bS : Binds K fdS ["_law_cell"] []) (gS : mg "_law_source_of" = some (.ref fS))
    (GN : FnOk P w K mg base CX0 1 fN fdN ["_law_source", "_law_many"] spNext) (kN : PySem.W.keepIn K (.ref fN) = true) (bN : Binds K fdN ["_law_source", "_law_many"] []) (gN : mg "_law_next" = some (.ref fN))
    (GK : FnOk P w K mg base CX0 4 fK fdK ["_law_source", "_law_most"] spStock) (kK : PySem.W.keepIn K (.ref fK) = true) (bK : Binds K fdK ["_law_source", "_law_most"] []) (gK : mg "_law_stock" = some (.ref fK))
    (GY : FnOk P w K mg base CX0 4 fY fdY ["_law_source", "_law_sorts", "_law_kinds"] spNoKinds) (kY : PySem.W.keepIn K (.ref fY) = true) (bY : Binds K fdY ["_law_source", "_law_sorts", "_law_kinds"] []) (gY : mg "_law_no_kinds" = some (.ref fY))
    (GZ : FnOk P w K mg base CX0 4 fZ fdZ ["_law_source", "_law_sorts"] spNoSorts) (kZ : PySem.W.keepIn K (.ref fZ) = true) (bZ : Binds K fdZ ["_law_source", "_law_sorts"] []) (gZ : mg "_law_no_sorts" = some (.ref fZ))
    (GT : FnOk P w K mg base CX0 7 fT fdT ["_law_sorts", "_law_kinds"] spTold) (kT : PySem.W.keepIn K (.ref fT) = true) (bT : Binds K fdT ["_law_sorts", "_law_kinds"] []) (gT : mg "_law_told" = some (.ref fT))
    (GA : FnOk P w K mg base CX0 7 fA fdA ["_law_sorts", "_law_kinds"] spAlike) (kA : PySem.W.keepIn K (.ref fA) = true) (bA : Binds K fdA ["_law_sorts", "_law_kinds"] []) (gA : mg "_law_alike" = some (.ref fA)) :
    FnOk P w K mg base CX0 8 f fd ["_law_script"] (spLaw K) := by
  refine F.ok scLaw (fun vs H Q E h => ?_) (fun cdv A outer s H vs Q E hr7 h => ?_)
  · obtain ⟨a, ns, rfl, _⟩ := h
    rfl
  · obtain ⟨a, ns, rfl, hS, hlen, k⟩ := h
    have hr1 : Room 1 (A.deeper (envOfC "law" (defScope sLaw) s.heap.objs.size f cdv)) := hr7.mono (by decide)
    have hr4 : Room 4 (A.deeper (envOfC "law" (defScope sLaw) s.heap.objs.size f cdv)) := hr7.mono (by decide)
    have hr6 : Room 6 (A.deeper (envOfC "law" (defScope sLaw) s.heap.objs.size f cdv)) := hr7.mono (by decide)
    have hr := hr7
    refine ⟨_, (pss_cons (ps_for PassesOwn.never rfl (pi_list (pe_op op_cat (pe_slice sl_list (pv 0) po_none (po_some pe_int)) (pe_lst (pa_cons pe_int (pa_cons pe_int pa_nil))))) (pg_name (i := 1) scLaw.nd rfl (Or.inl rfl)) (pss_cons (ps_set (i := 2) scLaw.nd rfl (Or.inl rfl) (pe_call GS hr1 (by rfl) gS kS bS .nil pass0 (pa_cons (pv 1) pa_nil)))
      (pss_cons (ps_set (i := 3) scLaw.nd rfl (Or.inl rfl) (pe_call GN hr1 (by rfl) gN kN bN .nil pass0 (pa_cons (pv 2) (pa_cons pe_int pa_nil))))
      (pss_cons (ps_asg (pe_call GK hr4 (by rfl) gK kK bK .nil pass0 (pa_cons (pv 2) (pa_cons pe_int pa_nil))) (pg_tup rfl (pgs_cons (pg_name (i := 4) scLaw.nd rfl (Or.inl rfl)) (pgs_cons (pg_name (i := 5) scLaw.nd rfl (Or.inl rfl)) pgs_nil))))
      (pss_cons (ps_set (i := 6) scLaw.nd rfl (Or.inl rfl) (pe_lst (pa_cons (pe_callTy call_list_of (by rfl) M.lst_ (by decide +kernel) (pa_cons (pv 4) pa_nil)) (pa_cons (pe_callTy call_list_of (by rfl) M.lst_ (by decide +kernel) (pa_cons (pv 5) pa_nil)) pa_nil))))
      (pss_cons (ps_set (i := 7) scLaw.nd rfl (Or.inl rfl) pe_str)
      (pss_cons (ps_if (pt_cmpR op_in_seq (pv 3) (pe_tup (pa_cons pe_int (pa_cons pe_int pa_nil))) (by rfl)) (pss_cons (ps_asg (pe_call GY hr4 (by rfl) gY kY bY .nil pass0 (pa_cons (pv 2) (pa_cons (pv 4) (pa_cons (pv 5) pa_nil)))) (pg_sub (pv 6) pe_int set_list)) (pss_one (ps_set (i := 7) scLaw.nd rfl (Or.inl rfl) pe_str))) pss_nil)
      (pss_cons (ps_if (pt_cmpR op_in_seq (pv 3) (pe_tup (pa_cons pe_int (pa_cons pe_int pa_nil))) (by rfl)) (pss_cons (ps_asg (pe_call GZ hr4 (by rfl) gZ kZ bZ .nil pass0 (pa_cons (pv 2) (pa_cons (pv 4) pa_nil))) (pg_sub (pv 6) pe_int set_list)) (pss_one (ps_set (i := 7) scLaw.nd rfl (Or.inl rfl) pe_str))) pss_nil)
      (pss_cons (ps_if (pt_cmpR op_ne (pv 7) pe_str (nomark _)) (pss_one (ps_if (pt_cmpR (op_neD hr.units) (pe_call GT hr7 (by rfl) gT kT bT .nil pass0 (pa_cons (pe_ix ix_list (pv 6) pe_int (fun _ _ => rfl)) (pa_cons (pe_ix ix_list (pv 6) pe_int (fun _ _ => rfl)) pa_nil))) (pe_tup (pa_cons pe_str (pa_cons (pv 7) (pa_cons pe_bl pa_nil)))) (nomark _)) (pss_one (ps_ret pe_bl)) pss_nil)) (pss_cons (ps_set (i := 8) scLaw.nd rfl (Or.inl rfl) (pe_makeS (E := noE) T.mak GI hr6 (by rfl) T.st.mgC bI (fun σ => passN σ) (pa_cons (pe_ix ix_list (pv 6) pe_int (fun _ _ => rfl)) (pa_cons (pe_ix ix_list (pv 6) pe_int (fun _ _ => rfl)) pa_nil))))
      (pss_cons (ps_if (pt_cmpR (op_neD hr.units) (pv 6) (pe_lst (pa_cons (pv 4) (pa_cons (pv 5) pa_nil))) (nomark _)) (pss_one (ps_ret pe_bl)) pss_nil)
      (pss_cons (ps_expr (pe_bm0 PySem.F.plainAttrs_list PySem.F.slot_list_clear PySem.F.type_list_clear mt_clear (pe_ix ix_list (pv 6) pe_int (fun _ _ => rfl))))
      (pss_cons (ps_expr (pe_bm0 PySem.F.plainAttrs_list PySem.F.slot_list_reverse PySem.F.type_list_reverse mt_reverse (pe_ix ix_list (pv 6) pe_int (fun _ _ => rfl))))
      (pss_cons (ps_if (pt_cmpR (op_neD hr.units) (pe_tup (pa_cons (pe_fld (pv 8) rfl) (pa_cons (pe_fld (pv 8) rfl) pa_nil))) (pe_tup (pa_cons (pv 4) (pa_cons (pv 5) pa_nil))) (nomark _)) (pss_one (ps_ret pe_bl)) pss_nil)
      (pss_one (ps_if (pt_cmpR (op_neD hr.units) (pe_call GT hr7 (by rfl) gT kT bT .nil pass0 (pa_cons (pv 4) (pa_cons (pv 5) pa_nil))) (pe_tup (pa_cons pe_str (pa_cons (pe_tup (pa_cons (pv 4) (pa_cons (pv 5) pa_nil))) (pa_cons pe_bl pa_nil)))) (nomark _)) (pss_one (ps_ret pe_bl)) pss_nil))))))))
      (pss_one (ps_if (pt_not (pt_val (pe_call GA hr7 (by rfl) gA kA bA .nil pass0 (pa_cons (pv 4) (pa_cons (pv 5) pa_nil))))) (pss_one (ps_ret pe_bl)) pss_nil))))))))))) (pss_one (ps_ret pe_bl))), ?_⟩
    have hcut : (cutV (ns.map V.int) none (some 10)).length ≤ 63 := Nat.le_trans (cutV_length _ _ _) (by rw [List.length_map]; exact hlen)
    have hints : ∀ z ∈ cutV (ns.map V.int) none (some 10) ++ [V.int 0, V.int 1], ∃ n : Int, z = .int n := fun z hz => by
      rcases List.mem_append.mp hz with q | q
      · exact cut_ints ns z q
      · have q2 : z = .int 0 ∨ z = .int 1 := by simpa using q
        rcases q2 with rfl | rfl
        · exact ⟨0, rfl⟩
        · exact ⟨1, rfl⟩
    refine ⟨_, rfl, 10, rfl, a, ns.map V.int, rfl, hS, fun p0 n0 => ?_⟩
    refine ⟨by show 2 ≤ sizeLine; decide, fun p1 n1 => ?_⟩
    refine ⟨p0, p1, _, _, rfl, rfl, (same_new n1) _ _ upd_same, upd_same, ?_, fun L nL => ?_⟩
    · rw [sizeLine_eq]
      show (cutV (ns.map V.int) none (some 10)).length + 2 ≤ 16777216
      omega
    generalize cutV (ns.map V.int) none (some 10) ++ [V.int 0, V.int 1] = XS at hints ⊢
    refine ⟨L, rfl, ⟨_, SqL.of upd_same⟩, for_list (K := K) (a := L) (xs := XS) (fun i σ H' => (∃ y1 y2 y3 y4 y5 y6 y7 y8, σ = [some (V.ref a), y1, y2, y3, y4, y5, y6, y7, y8]) ∧ H' L = some (.lst XS))
      ⟨⟨_, _, _, _, _, _, _, _, rfl⟩, upd_same⟩ (fun i σ H' _ h => SqL.of h.2) ?_ ?_⟩
    · rintro i0 y σ H1 hy ⟨⟨y1, y2, y3, y4, y5, y6, y7, y8, rfl⟩, hL⟩
      obtain ⟨z, rfl⟩ := hints y (List.mem_of_getElem? hy)
      refine ⟨_, rfl, z, rfl, fun p H2 np hp s2 => ?_⟩
      have nLp : L ≠ p := ne_of_none hL np
      refine ⟨_, rfl, p, 6, 0, rfl, hp, by decide, by decide, by decide, fun r H3 r0 r1 hp3 o3 => ?_⟩
      refine ⟨_, rfl, p, 0 + 1, rfl, hp3, by decide, fun t ls lk rows ks HS gd gk l1k l4k et ds dk hpS oS => ?_⟩
      have hLS : HS L = some (.lst XS) := oS _ _ (o3 _ _ (s2 _ _ hL) nLp) nLp
      refine ⟨t, _, rfl, SqT.of (del_sub _ _ et), rfl, _, _, rfl, _, _, rfl, rfl, ?_⟩
      clear hL o3 oS hp3 hp s2 et
      have gp := goodP gd gk l1k l4k
      have g1 := (good_rows gd).1
      have fS : Flat (rows.map rowT) := sorts_flat gp.s
      have fK : Flat (ks.map kindT) := kinds_flat gp.k
      have lowS := low_list fS
      have lowK := low_list fK
      obtain ⟨xs, hls, lxs, rxs⟩ := dt_list ds
      obtain ⟨xk, hlk, lxk, rxk⟩ := dt_list dk
      refine ⟨_, rfl, ls, xs, rfl, .inl (SqL.of (del_sub _ _ hls)), fun l0 nl0 => ?_⟩
      obtain ⟨sa, ea, hpa, oa⟩ := fresh (o := .lst xs) hpS nl0
      have nl0p := hpS.ne nl0
      generalize upd HS l0 (.lst xs) = Ha at sa ea hpa oa ⊢
      refine ⟨_, rfl, lk, xk, rfl, .inl (SqL.of (del_sub _ _ (sa _ _ hlk))), fun l1 nl1 => ?_⟩
      obtain ⟨sb, eb, hpb, ob⟩ := fresh (o := .lst xk) hpa nl1
      have nl1p := hpa.ne nl1
      have l1S : HS l1 = none := oa.free hpa nl1
      have nl01 : l0 ≠ l1 := ne_of_none (del_sub _ _ ea) nl1
      generalize upd Ha l1 (.lst xk) = Hb at sb eb hpb ob ⊢
      refine ⟨by show 2 ≤ sizeLine; decide, fun h nh => ?_⟩
      obtain ⟨sc, ec, hpc, oc⟩ := fresh (o := .lst [.ref l0, .ref l1]) hpb nh
      have nhp := hpb.ne nh
      have hS_ : HS h = none := (oa.trans ob).free hpb nh
      generalize upd Hb h (.lst [.ref l0, .ref l1]) = Hc at sc ec hpc oc ⊢
      have oS : Off p HS Hc := (oa.trans ob).trans oc
      have D0 : Dt (del Hc p) (.ref l0) (.list (rows.map rowT)) := .lst (sc _ _ (sb _ _ ea)) lxs (rxs.same ((sa.trans sb).trans sc))
      have D1 : Dt (del Hc p) (.ref l1) (.list (ks.map kindT)) := .lst (sc _ _ eb) lxk (rxk.same ((sa.trans sb).trans sc))
      have Dh : Dt (del Hc p) (.ref h) (.list [.list (rows.map rowT), .list (ks.map kindT)]) := .lst ec (by show 2 ≤ 1000; decide) (.cons D0 (.cons D1 .nil))
      refine ⟨_, rfl, by show 2 ≤ sizeLine; decide, fun tp ntp => ⟨tp, _, rfl, .inr (SqT.of upd_same), rfl, rfl, _, rfl, ?_⟩⟩
      obtain ⟨sd, ed, hpd, od⟩ := fresh (o := .tup [.int 0, .int 2]) hpc ntp
      generalize upd Hc tp (.tup [.int 0, .int 2]) = Hd at sd ed hpd od ⊢
      have oD := oS.trans od
      have hh : Hd h = some (.lst [.ref l0, .ref l1]) := del_sub _ _ (sd _ _ ec)
      have D0 := D0.same sd
      have D1 := D1.same sd
      have Dh := Dh.same sd
      have el0 : Hd l0 = some (.lst xs) := del_sub _ _ (sd _ _ (sc _ _ (sb _ _ ea)))
      have el1 : Hd l1 = some (.lst xk) := del_sub _ _ (sd _ _ (sc _ _ eb))
      have nh0 : h ≠ l0 := (ne_of_none (del_sub _ _ (sb _ _ ea)) nh).symm
      have nh1 : h ≠ l1 := (ne_of_none (del_sub _ _ eb) nh).symm
      clear sa sb sc sd ea eb ec ed oa ob oc od hpa hpb hpc oS
      refine ite2 (fun c1 => ?_) (fun c1 => ?_)
      · refine ⟨_, rfl, _, rfl, _, rfl, p, ls, lk, _, rows, ks, rfl, hpd, by decide, gd, gk, l1k, l4k, ds.same (off_same oD), dk.same (off_same oD), fun v1 d1 He b1 n1_ dv1 hpe oe => ?_⟩
        have hhe := oe _ _ hh nhp
        have Dhe := Dh.same (off_same oe)
        have Dw1 := (Dt.apart Dhe (two_lists g1 _) dv1 n1_).same (del2_upd (o := .lst [.ref l0, v1]))
        have D0h := (Dt.apart Dhe (two_lists g1 _) (D0.same (off_same oe)) (tups_rows rows).l).same (del2_upd (o := .lst [.ref l0, v1]))
        refine ⟨_, rfl, h, _, 1, 1, rfl, rfl, hhe, rfl, ?_⟩
        have hhx : upd He h (.lst [.ref l0, v1]) h = some (.lst [.ref l0, v1]) := upd_same
        have oX : Off p HS (upd He h (.lst [.ref l0, v1])) := (oD.trans oe).upd0 hS_
        have hpX := hpe.upd (o := .lst [.ref l0, v1]) nhp
        show tSeq _ _ _ _ (upd He h (.lst [.ref l0, v1]))
        generalize upd He h (.lst [.ref l0, v1]) = HX at Dw1 D0h hhx oX hpX ⊢
        refine ⟨_, rfl, by show 2 ≤ sizeLine; decide, fun tp2 ntp2 => ⟨tp2, _, rfl, .inr (SqT.of upd_same), rfl, rfl, _, rfl, ?_⟩⟩
        obtain ⟨sd2, ed2, hpd2, od2⟩ := fresh (o := .tup [.int 1, .int 2]) hpX ntp2
        generalize upd HX tp2 (.tup [.int 1, .int 2]) = HV at sd2 ed2 hpd2 od2 ⊢
        have hhv := od2 _ _ hhx nhp
        have oV := oX.trans od2
        have Dw1 := Dw1.same (off2 (l := h) od2)
        have D0h := D0h.same (off2 (l := h) od2)
        refine ite2 (fun c2 => ?_) (fun c2 => ?_)
        · refine ⟨_, rfl, _, rfl, p, ls, _, rows, rfl, hpd2, by decide, gd, ds.same (off_same oV), fun v0 d0 HG b0 n0_ dv0 hpg og => ?_⟩
          have hhg := og _ _ hhv nhp
          have oG := oV.trans og
          have Dw1 := Dw1.same (off2 (l := h) og)
          have Dhg : Dt (del HG p) (.ref h) (.list [.list (rows.map rowT), d1]) := .lst (by rw [del_ne nhp]; exact hhg) (by show 2 ≤ 1000; decide) (.cons ((D0h.same (off2 (l := h) og)).same del_sub) (.cons (Dw1.same del_sub) .nil))
          have Dw0 : Dt (del2 (upd HG h (.lst [v0, v1])) p h) v0 d0 := (Dt.apart Dhg (two_lists g1 _) dv0 n0_).same (del2_upd (o := .lst [v0, v1]))
          have Dw1 := Dw1.same (del2_upd (o := .lst [v0, v1]))
          refine ⟨_, rfl, h, _, 0, 0, rfl, rfl, hhg, rfl, ?_⟩
          have hhx : upd HG h (.lst [v0, v1]) h = some (.lst [v0, v1]) := upd_same
          have oX : Off p HS (upd HG h (.lst [v0, v1])) := oG.upd0 hS_
          show tSeq _ _ _ _ (upd HG h (.lst [v0, v1]))
          generalize upd HG h (.lst [v0, v1]) = HX at Dw1 Dw0 hhx oX ⊢
          have Dw0 := Dw0.same (del_sub.trans del_sub)
          have Dw1 := Dw1.same (del_sub.trans del_sub)
          have er : resD d0 d1 = .tuple [.str "none", .str "sorts", .bool false] := by
            unfold resD
            rw [if_neg (by rw [b0]; decide)]
          refine ⟨_, rfl, rfl, _, rfl, ?_⟩
          dsimp only
          rw [if_pos (by decide +kernel)]
          refine ⟨_, rfl, h, _, 0, _, rfl, rfl, SqL.of hhx, ix0, _, rfl, h, _, 1, _, rfl, rfl, SqL.of hhx, ix1, _, _, _, _, rfl, Dw0, Dw1, fun v HY dv sY => ?_⟩
          rw [er] at dv
          refine ⟨_, rfl, by show 3 ≤ sizeLine; decide, fun tq ntq => ?_⟩
          have t9 := same_new (o := .tup [.str "none", .str "sorts", .bl false]) ntq
          refine neD_same (dv.same t9) (.tup upd_same (by show 3 ≤ 1000; decide) (.cons (con_s "none" (by decide +kernel)) (.cons (con_s "sorts" (by decide +kernel)) (.cons (.bl false) .nil)))) ⟨by decide +kernel, by decide +kernel⟩ ⟨_, rfl, ?_⟩
          dsimp only
          rw [if_neg (by decide)]
          have oZ := (oX.trans (Same.off sY)).trans (Same.off t9)
          generalize upd HY tq (.tup [.str "none", .str "sorts", .bl false]) = HZ at oZ ⊢
          refine ⟨_, rfl, _, rfl, ls, lk, rows, ks, rfl, gd, gk, l1k, l4k, (ds.same (off_same oZ)).same del_sub, (dk.same (off_same oZ)).same del_sub, fun HE sE => ⟨_, rfl, ?_⟩⟩
          dsimp only
          rw [if_neg (by decide)]
          exact ⟨⟨_, _, _, _, _, _, _, _, rfl⟩, sE _ _ (oZ _ _ hLS nLp)⟩
        · have hhx := hhv
          have oX := oV
          have Dw0 := D0h.same (del_sub.trans del_sub)
          have Dw1 := Dw1.same (del_sub.trans del_sub)
          have er : resD (.list (rows.map rowT)) d1 = .tuple [.str "none", .str "kinds", .bool false] := by
            unfold resD
            rw [if_pos gp.s, if_neg (by rw [keys_T, b1]; decide)]
          refine ⟨_, rfl, rfl, _, rfl, ?_⟩
          dsimp only
          rw [if_pos (by decide +kernel)]
          refine ⟨_, rfl, h, _, 0, _, rfl, rfl, SqL.of hhx, ix0, _, rfl, h, _, 1, _, rfl, rfl, SqL.of hhx, ix1, _, _, _, _, rfl, Dw0, Dw1, fun v HY dv sY => ?_⟩
          rw [er] at dv
          refine ⟨_, rfl, by show 3 ≤ sizeLine; decide, fun tq ntq => ?_⟩
          have t9 := same_new (o := .tup [.str "none", .str "kinds", .bl false]) ntq
          refine neD_same (dv.same t9) (.tup upd_same (by show 3 ≤ 1000; decide) (.cons (con_s "none" (by decide +kernel)) (.cons (con_s "kinds" (by decide +kernel)) (.cons (.bl false) .nil)))) ⟨by decide +kernel, by decide +kernel⟩ ⟨_, rfl, ?_⟩
          dsimp only
          rw [if_neg (by decide)]
          have oZ := (oX.trans (Same.off sY)).trans (Same.off t9)
          generalize upd HY tq (.tup [.str "none", .str "kinds", .bl false]) = HZ at oZ ⊢
          refine ⟨_, rfl, _, rfl, ls, lk, rows, ks, rfl, gd, gk, l1k, l4k, (ds.same (off_same oZ)).same del_sub, (dk.same (off_same oZ)).same del_sub, fun HE sE => ⟨_, rfl, ?_⟩⟩
          dsimp only
          rw [if_neg (by decide)]
          exact ⟨⟨_, _, _, _, _, _, _, _, rfl⟩, sE _ _ (oZ _ _ hLS nLp)⟩
      · have Dw1 := Dt.apart Dh (two_lists g1 _) D1 (tups_kinds ks).l
        have D0h := Dt.apart Dh (two_lists g1 _) D0 (tups_rows rows).l
        have hhx := hh
        have oX := oD
        have hpX := hpd
        have el0X := el0
        have el1X := el1
        generalize Hd = HX at Dw1 D0h hhx oX hpX el0X el1X ⊢
        refine ⟨_, rfl, by show 2 ≤ sizeLine; decide, fun tp2 ntp2 => ⟨tp2, _, rfl, .inr (SqT.of upd_same), rfl, rfl, _, rfl, ?_⟩⟩
        obtain ⟨sd2, ed2, hpd2, od2⟩ := fresh (o := .tup [.int 1, .int 2]) hpX ntp2
        generalize upd HX tp2 (.tup [.int 1, .int 2]) = HV at sd2 ed2 hpd2 od2 ⊢
        have hhv := od2 _ _ hhx nhp
        have oV := oX.trans od2
        have Dw1 := Dw1.same (off2 (l := h) od2)
        have D0h := D0h.same (off2 (l := h) od2)
        refine ite2 (fun c2 => ?_) (fun c2 => ?_)
        · refine ⟨_, rfl, _, rfl, p, ls, _, rows, rfl, hpd2, by decide, gd, ds.same (off_same oV), fun v0 d0 HG b0 n0_ dv0 hpg og => ?_⟩
          have hhg := og _ _ hhv nhp
          have oG := oV.trans og
          have Dw1 := Dw1.same (off2 (l := h) og)
          have Dhg : Dt (del HG p) (.ref h) (.list [.list (rows.map rowT), (.list (ks.map kindT))]) := .lst (by rw [del_ne nhp]; exact hhg) (by show 2 ≤ 1000; decide) (.cons ((D0h.same (off2 (l := h) og)).same del_sub) (.cons (Dw1.same del_sub) .nil))
          have Dw0 : Dt (del2 (upd HG h (.lst [v0, .ref l1])) p h) v0 d0 := (Dt.apart Dhg (two_lists g1 _) dv0 n0_).same (del2_upd (o := .lst [v0, .ref l1]))
          have Dw1 := Dw1.same (del2_upd (o := .lst [v0, .ref l1]))
          refine ⟨_, rfl, h, _, 0, 0, rfl, rfl, hhg, rfl, ?_⟩
          have hhx : upd HG h (.lst [v0, .ref l1]) h = some (.lst [v0, .ref l1]) := upd_same
          have oX : Off p HS (upd HG h (.lst [v0, .ref l1])) := oG.upd0 hS_
          show tSeq _ _ _ _ (upd HG h (.lst [v0, .ref l1]))
          generalize upd HG h (.lst [v0, .ref l1]) = HX at Dw1 Dw0 hhx oX ⊢
          have Dw0 := Dw0.same (del_sub.trans del_sub)
          have Dw1 := Dw1.same (del_sub.trans del_sub)
          have er : resD d0 (.list (ks.map kindT)) = .tuple [.str "none", .str "sorts", .bool false] := by
            unfold resD
            rw [if_neg (by rw [b0]; decide)]
          refine ⟨_, rfl, rfl, _, rfl, ?_⟩
          dsimp only
          rw [if_pos (by decide +kernel)]
          refine ⟨_, rfl, h, _, 0, _, rfl, rfl, SqL.of hhx, ix0, _, rfl, h, _, 1, _, rfl, rfl, SqL.of hhx, ix1, _, _, _, _, rfl, Dw0, Dw1, fun v HY dv sY => ?_⟩
          rw [er] at dv
          refine ⟨_, rfl, by show 3 ≤ sizeLine; decide, fun tq ntq => ?_⟩
          have t9 := same_new (o := .tup [.str "none", .str "sorts", .bl false]) ntq
          refine neD_same (dv.same t9) (.tup upd_same (by show 3 ≤ 1000; decide) (.cons (con_s "none" (by decide +kernel)) (.cons (con_s "sorts" (by decide +kernel)) (.cons (.bl false) .nil)))) ⟨by decide +kernel, by decide +kernel⟩ ⟨_, rfl, ?_⟩
          dsimp only
          rw [if_neg (by decide)]
          have oZ := (oX.trans (Same.off sY)).trans (Same.off t9)
          generalize upd HY tq (.tup [.str "none", .str "sorts", .bl false]) = HZ at oZ ⊢
          refine ⟨_, rfl, _, rfl, ls, lk, rows, ks, rfl, gd, gk, l1k, l4k, (ds.same (off_same oZ)).same del_sub, (dk.same (off_same oZ)).same del_sub, fun HE sE => ⟨_, rfl, ?_⟩⟩
          dsimp only
          rw [if_neg (by decide)]
          exact ⟨⟨_, _, _, _, _, _, _, _, rfl⟩, sE _ _ (oZ _ _ hLS nLp)⟩
        · have hhx := hhv
          have oX := oV
          have Dw0 := D0h.same (del_sub.trans del_sub)
          have Dw1 := Dw1.same (del_sub.trans del_sub)
          have el0 : HV l0 = some (.lst xs) := od2 _ _ el0X nl0p
          have el1 : HV l1 = some (.lst xk) := od2 _ _ el1X nl1p
          refine ⟨_, rfl, rfl, _, rfl, ?_⟩
          dsimp only
          rw [if_neg (by decide +kernel)]
          refine ⟨_, rfl, h, _, 0, _, rfl, rfl, SqL.of hhx, ix0, _, rfl, h, _, 1, _, rfl, rfl, SqL.of hhx, ix1, fun x dx nx ndx ne => make_ok nx ndx ne Dw0 Dw1 gp (fun HM stM nwM sM => ⟨rfl, ?_⟩)⟩
          have nx0 := nx
          obtain ⟨dx', lS, lK, a', b', xs', ys', e1, e2, e3, n1, n2, ea, eb, e4, e5⟩ := nwM
          cases ea
          cases eb
          rw [el0] at e4
          cases e4
          rw [el1] at e5
          cases e5
          have hhM := sM _ _ hhx
          have oM := oX.trans (Same.off sM)
          have neSx : lS ≠ l0 ∧ lS ≠ l1 ∧ lK ≠ l0 ∧ lK ≠ l1 := ⟨(ne_of_none el0 n1).symm, (ne_of_none el1 n1).symm, (ne_of_none el0 n2).symm, (ne_of_none el1 n2).symm⟩
          have nex : x ≠ l0 ∧ x ≠ l1 := ⟨(ne_of_none el0 nx0).symm, (ne_of_none el1 nx0).symm⟩
          have neh : h ≠ l0 ∧ h ≠ l1 := ⟨nh0, nh1⟩
          refine ⟨_, rfl, _, rfl, _, rfl, by show 2 ≤ sizeLine; decide, fun t1 nt1 => ?_⟩
          have s1 := same_new (o := .lst [.ref ls, .ref lk]) nt1
          have dsM := (ds.same (off_same oM)).same del_sub
          have dkM := (dk.same (off_same oM)).same del_sub
          refine neD_same (d := .list [.list (rows.map rowT), .list (ks.map kindT)]) (.lst (s1 _ _ hhM) (by show 2 ≤ 1000; decide) (.cons ((Dw0.same sM).same s1) (.cons ((Dw1.same sM).same s1) .nil))) (.lst upd_same (by show 2 ≤ 1000; decide) (.cons (dsM.same s1) (.cons (dkM.same s1) .nil))) (low2l lowS lowK) ⟨_, rfl, ?_⟩
          dsimp only
          rw [if_neg (by decide)]
          have oN := oM.trans (Same.off s1)
          have hhN := s1 _ _ hhM
          have el0N := s1 _ _ (sM _ _ el0)
          have el1N := s1 _ _ (sM _ _ el1)
          have exN := s1 _ _ e1
          have elSN := s1 _ _ e2
          have elKN := s1 _ _ e3
          generalize upd HM t1 (.lst [.ref ls, .ref lk]) = HN at oN hhN el0N el1N exN elSN elKN ⊢
          refine ⟨_, rfl, h, _, 0, _, rfl, rfl, SqL.of hhN, ix0, .inl ⟨rfl, _, SqL.of el0N⟩, l0, xs, rfl, rfl, el0N, ?_⟩
          have hhC : upd HN l0 (.lst []) h = some (.lst [.ref l0, .ref l1]) := by rw [upd_ne neh.1]; exact hhN
          have el1C : upd HN l0 (.lst []) l1 = some (.lst xk) := by rw [upd_ne nl01.symm]; exact el1N
          refine ⟨_, rfl, h, _, 1, _, rfl, rfl, SqL.of hhC, ix1, .inl ⟨rfl, _, SqL.of el1C⟩, l1, xk, rfl, rfl, el1C, ?_⟩
          have oR : Off p HS (upd (upd HN l0 (.lst [])) l1 (.lst xk.reverse)) := (oN.upd0 nl0).upd0 l1S
          have exR : upd (upd HN l0 (.lst [])) l1 (.lst xk.reverse) x = some (.ins C dx' (sf lS lK)) := by rw [upd_ne nex.2, upd_ne nex.1]; exact exN
          have elSR : upd (upd HN l0 (.lst [])) l1 (.lst xk.reverse) lS = some (.lst xs) := by rw [upd_ne neSx.2.1, upd_ne neSx.1]; exact elSN
          have elKR : upd (upd HN l0 (.lst [])) l1 (.lst xk.reverse) lK = some (.lst xk) := by rw [upd_ne neSx.2.2.2, upd_ne neSx.2.2.1]; exact elKN
          show tSeq _ _ _ _ (upd (upd HN l0 (.lst [])) l1 (.lst xk.reverse))
          generalize upd (upd HN l0 (.lst [])) l1 (.lst xk.reverse) = HR at oR exR elSR elKR ⊢
          have dsR := (ds.same (off_same oR)).same del_sub
          have dkR := (dk.same (off_same oR)).same del_sub
          have dS : Dt HR (.ref lS) (.list (rows.map rowT)) := .lst elSR lxs ((rxs.same (off_same oR)).same del_sub)
          have dK : Dt HR (.ref lK) (.list (ks.map kindT)) := .lst elKR lxk ((rxk.same (off_same oR)).same del_sub)
          refine ⟨_, rfl, x, C, dx', _, _, rfl, exR, T.st.cl, T.st.nS, sf_sorts lS lK, _, rfl, x, C, dx', _, _, rfl, exR, T.st.cl, T.st.nK, sf_kinds lS lK, by show 2 ≤ sizeLine; decide, fun t2 nt2 => ?_⟩
          have s2 := same_new (o := .tup [.ref lS, .ref lK]) nt2
          have et2 : upd HR t2 (.tup [.ref lS, .ref lK]) t2 = some (.tup [.ref lS, .ref lK]) := upd_same
          generalize upd HR t2 (.tup [.ref lS, .ref lK]) = H2' at s2 et2 ⊢
          refine ⟨_, rfl, _, rfl, by show 2 ≤ sizeLine; decide, fun t3 nt3 => ?_⟩
          have s3 := same_new (o := .tup [.ref ls, .ref lk]) nt3
          have s23 := s2.trans s3
          refine neD_same (d := .tuple [.list (rows.map rowT), .list (ks.map kindT)]) (.tup (s3 _ _ et2) (by show 2 ≤ 1000; decide) (.cons (dS.same s23) (.cons (dK.same s23) .nil))) (.tup upd_same (by show 2 ≤ 1000; decide) (.cons (dsR.same s23) (.cons (dkR.same s23) .nil))) (low2t lowS lowK) ⟨_, rfl, ?_⟩
          dsimp only
          rw [if_neg (by decide)]
          generalize upd H2' t3 (.tup [.ref ls, .ref lk]) = H3' at s3 s23 ⊢
          refine ⟨_, rfl, _, rfl, _, _, _, _, rfl, dsR.same s23, dkR.same s23, fun v HT dv sT => ?_⟩
          have er : resD (.list (rows.map rowT)) (.list (ks.map kindT)) = .tuple [.str "told", .tuple [.list (rows.map rowT), .list (ks.map kindT)], .bool true] := by
            unfold resD
            rw [if_pos gp.s, if_pos gp.k]
            rfl
          rw [er] at dv
          refine ⟨_, rfl, _, rfl, by show 2 ≤ sizeLine; decide, fun t4 nt4 => ?_⟩
          have s4 := same_new (o := .tup [.ref ls, .ref lk]) nt4
          have et4 : upd HT t4 (.tup [.ref ls, .ref lk]) t4 = some (.tup [.ref ls, .ref lk]) := upd_same
          generalize upd HT t4 (.tup [.ref ls, .ref lk]) = H4' at s4 et4 ⊢
          refine ⟨by show 3 ≤ sizeLine; decide, fun t5 nt5 => ?_⟩
          have s5 := same_new (o := .tup [.str "told", .ref t4, .bl true]) nt5
          have sR5 := ((s23.trans sT).trans s4).trans s5
          refine neD_same ((dv.same s4).same s5) (.tup upd_same (by show 3 ≤ 1000; decide) (.cons (con_s "told" (by decide +kernel)) (.cons (.tup (s5 _ _ et4) (by show 2 ≤ 1000; decide) (.cons (dsR.same sR5) (.cons (dkR.same sR5) .nil))) (.cons (.bl true) .nil)))) (low3 lowS lowK) ⟨_, rfl, ?_⟩
          dsimp only
          rw [if_neg (by decide)]
          have oZ := oR.trans (Same.off sR5)
          generalize upd H4' t5 (.tup [.str "told", .ref t4, .bl true]) = HZ at oZ ⊢
          refine ⟨_, rfl, _, rfl, ls, lk, rows, ks, rfl, gd, gk, l1k, l4k, (ds.same (off_same oZ)).same del_sub, (dk.same (off_same oZ)).same del_sub, fun HE sE => ⟨_, rfl, ?_⟩⟩
          dsimp only
          rw [if_neg (by decide)]
          exact ⟨⟨_, _, _, _, _, _, _, _, rfl⟩, sE _ _ (oZ _ _ hLS nLp)⟩
    · rintro σ H1 ⟨⟨y1, y2, y3, y4, y5, y6, y7, y8, rfl⟩, _⟩
      exact k H1
end
end Toy
set_option Elab.async false
set_option linter.all false
set_option maxRecDepth 100000
set_option maxHeartbeats 4000000
namespace Toy
open PySem PySem.Spec PyProof.Rows L2
/-! ### what the top has left -/
def stkB (K : PySem.W.Frag) (C fI fQ : Addr) : Bool :=
  (PySem.W.plainGet K C Str.empty && PySem.W.hasDictIn K C && PySem.W.plainOver K C && (PySem.W.findIn K (.ref C) "__setattr__" == some (some (.builtin "object.__setattr__"))))
  && ((PySem.W.findIn K (.ref C) "sorts" == some none) && (PySem.W.findIn K (.ref C) "kinds" == some none))
  && ((PySem.W.findIn K (.ref C) "__class__" == some (some (.builtin "object.__class__"))) && (PySem.W.specialIn K (.builtin "object.__class__") "__get__" == some (some (.builtin "getset_descriptor.__get__"))) && (PySem.W.takesIn K (.builtin "object.__class__") == some true) && (PySem.W.mroIn K C (.type "object") == some true))
  && ((PySem.W.kitOne K (.ref C) (.ref C) == some true) && PySem.W.makesIn K C && (PySem.W.findIn K (.ref C) "__init__" == some (some (.ref fI))) && PySem.W.isFn K (.ref fI) && PySem.W.keepIn K (.ref C))
  && ((PySem.W.findIn K (.ref C) "__eq__" == some (some (.ref fQ))) && PySem.W.isFn K (.ref fQ) && (PySem.W.findIn K (.ref C) "__ne__" == some (some (.builtin "object.__ne__"))))
  && (PySem.W.notFirst K C (.ref C) && PySem.W.notFirst K C (.type "tuple") && PySem.W.notFirst K C (.type "int") && PySem.W.notFirst K C (.type "str"))
  && ((PySem.W.kitOne K (.type "tuple") (.ref C) == some false) && (PySem.W.kitOne K (.type "int") (.ref C) == some false) && (PySem.W.kitOne K (.type "str") (.ref C) == some false))
def nosB (K : PySem.W.Frag) (N D W E fX : Addr) : Bool :=
  ((PySem.W.findIn K (.ref N) "__getattribute__" == some (some (.builtin "BaseException.__getattribute__")))
  && (PySem.W.findIn K (.ref N) "__getattr__" == some none) && (PySem.W.subIn K (.ref N) (.type "BaseException") == some true) && PySem.W.hasDictIn K N
  && (PySem.W.findIn K (.ref N) "__class__" == some (some (.builtin "object.__class__"))) && (PySem.W.mroIn K N (.type "object") == some true))
  && ((PySem.W.exmOne K (.ref N) (.ref N) == some true) && (PySem.W.kitAny K (.ref N) [.ref D, .ref W] == some false) && (PySem.W.kitOne K (.ref N) (.ref E) == some true))
  && ((PySem.W.findIn K (.ref N) "__setattr__" == some (some (.builtin "object.__setattr__"))) && (PySem.W.typeIn K (.ref N) == some (.type "type")) && PySem.W.keepIn K (.ref N))
  && ((PySem.W.findIn K (.ref N) "part" == some none) && (PySem.W.findIn K (.ref N) "__init__" == some (some (.ref fX))) && (PySem.W.typeIn K (.ref fX) == some (.type "function")))
theorem all_of {K : PySem.W.Frag} {mg : Str → Option Value} {C N D W E fI fQ fX : Addr} {nm qn : Str} {N0 : Addr} {bs bm sub : List Value} {sn : List Str} {ab : Bool} {col : Option Bool} {dd : Option Addr} {u v w x y : Option Value}
    (h1 : stkB K C fI fQ = true) (h2 : nosB K N D W E fX = true) (xl : K.lookup N = some (excClassObj nm qn N N0 bs bm true sn sub ab col dd u v w x y "ValueError.__new__")) (rb : PySem.HandSPX.refsVE bm = true)
    (mC : mg "Stock" = some (.ref C)) (mN : mg "NoStock" = some (.ref N)) (mD : mg "NoDrawing" = some (.ref D)) (mW : mg "NoWeights" = some (.ref W)) (mE : mg "EndError" = some (.ref E)) :
    ToldC K mg C N D W E fX fI ∧ AlikeC K C fQ := by
  unfold stkB at h1
  unfold nosB at h2
  simp only [Bool.and_eq_true, beq_iff_eq] at h1 h2
  obtain ⟨⟨⟨⟨⟨⟨⟨⟨⟨a1, a2⟩, a3⟩, a4⟩, ⟨b1, b2⟩⟩, ⟨⟨⟨c1, c2⟩, c3⟩, c4⟩⟩, ⟨⟨⟨⟨d1, d2⟩, d3⟩, d4⟩, d5⟩⟩, ⟨⟨e1, e2⟩, e3⟩⟩, ⟨⟨⟨f1, f2⟩, f3⟩, f4⟩⟩, ⟨⟨g1, g2⟩, g3⟩⟩ := h1
  obtain ⟨⟨⟨⟨⟨⟨⟨⟨i1, i2⟩, i3⟩, i4⟩, i5⟩, i6⟩, ⟨⟨j1, j2⟩, j3⟩⟩, ⟨⟨k1, k2⟩, k3⟩⟩, ⟨⟨l1, l2⟩, l3⟩⟩ := h2
  have st : StkC K mg C N fX := ⟨⟨a1, a2, a3, a4⟩, b1, b2, mC, c1, c2, c3, c4, d1, ⟨⟨_, _, _, _, _, _, _, _, _, _, _, _, _, _, _, xl, rb⟩, k1, i3, k2, k3⟩, l1, l2, l3, mN⟩
  exact ⟨⟨st, ⟨d2, d3, d4, d5⟩, ⟨i1, i2, i3, i4, i5, c2, c3, i6⟩, ⟨i1, i2, i3, i4⟩, j1, mD, mW, mE, j2, j3⟩, ⟨⟨e1, e2, e3, c4⟩, f1, f2, f3, f4, g1, g2, g3⟩⟩
theorem scNoSt : FnScope ["self", "part"] ["self", "part"] (defScope sNoSt) := ⟨rfl, rfl, rfl, by decide +kernel, rfl, by decide +kernel, by decide +kernel⟩
theorem all_mk {l : PySem.W.OpenLaw} {w : World} {K : PySem.W.Frag} {h : Heap} {mg : Str → Option Value}
    {fa C CN CD CW CE fn fp fl fu fe fk fK fs fI fQ fX fS fN fO fM fJ fW fZ fY fT fA fL : Addr}
    {odn ann odp anp odl anl odu anu ode ane odk ank odK anK ods ans odI anI odQ anQ odX anX odS anS odN anN odO anO odM anM odJ anJ odW anW odZ anZ odY anY odT anT odA anA odL anL : Option Addr}
    {sln slp sll slu sle slk slK sls slI slQ slX slS slN slO slM slJ slW slZ slY slT slA slL : Array (Option Value)}
    {ocn kVn dcn pmn cdn ctn ocp kVp dcp pmp cdp ctp ocl kVl dcl pml cdl ctl ocu kVu dcu pmu cdu ctu oce kVe dce pme cde cte ock kVk dck pmk cdk ctk ocK kVK dcK pmK cdK ctK ocs kVs dcs pms cds cts ocI kVI dcI pmI cdI ctI ocQ kVQ dcQ pmQ cdQ ctQ ocX kVX dcX pmX cdX ctX ocS kVS dcS pmS cdS ctS ocN kVN dcN pmN cdN ctN ocO kVO dcO pmO cdO ctO ocM kVM dcM pmM cdM ctM ocJ kVJ dcJ pmJ cdJ ctJ ocW kVW dcW pmW cdW ctW ocZ kVZ dcZ pmZ cdZ ctZ ocY kVY dcY pmY cdY ctY ocT kVT dcT pmT cdT ctT ocA kVA dcA pmA cdA ctA ocL kVL dcL pmL cdL ctL : Value}
    {nm qn : Str} {N0 : Addr} {bs bm sub : List Value} {sn : List Str} {ab : Bool} {col : Option Bool} {dd : Option Addr} {u_ v_ w_ x_ y_ : Option Value} {t1 t2 t3 t4 t5 : Tok}
    (X : K.In h) (G : h.Ns mainGlobals mg) (hfa : mg "law" = some (.ref fa))
    (aC : PySem.W.nsIn K mainGlobals "Stock" = some (some (.ref C)))
    (aCN : PySem.W.nsIn K mainGlobals "NoStock" = some (some (.ref CN)))
    (aCD : PySem.W.nsIn K mainGlobals "NoDrawing" = some (some (.ref CD)))
    (aCW : PySem.W.nsIn K mainGlobals "NoWeights" = some (some (.ref CW)))
    (aCE : PySem.W.nsIn K mainGlobals "EndError" = some (some (.ref CE)))
    (cT : PySem.W.nsIn K mainGlobals "LETTERS" = some (some (.str LET t1)))
    (c0 : PySem.W.nsIn K mainGlobals "LONGEST_NAME" = some (some (.int 8 t2)))
    (c1 : PySem.W.nsIn K mainGlobals "MOST_SORTS" = some (some (.int 3 t3)))
    (c2 : PySem.W.nsIn K mainGlobals "MOST_KINDS" = some (some (.int 4 t4)))
    (c3 : PySem.W.nsIn K mainGlobals "MOST_ENDS" = some (some (.int 5 t5)))
    (xl : K.lookup CN = some (excClassObj nm qn CN N0 bs bm true sn sub ab col dd u_ v_ w_ x_ y_ "ValueError.__new__"))
    (rb : PySem.HandSPX.refsVE bm = true)
    (gn : PySem.W.nsIn K mainGlobals "is_name" = some (some (.ref fn)))
    (gp : PySem.W.nsIn K mainGlobals "is_pair" = some (some (.ref fp)))
    (gl : PySem.W.nsIn K mainGlobals "is_list" = some (some (.ref fl)))
    (gu : PySem.W.nsIn K mainGlobals "are_unlike" = some (some (.ref fu)))
    (ge : PySem.W.nsIn K mainGlobals "_are_ends" = some (some (.ref fe)))
    (gk : PySem.W.nsIn K mainGlobals "_is_kind" = some (some (.ref fk)))
    (gK : PySem.W.nsIn K mainGlobals "_are_kinds" = some (some (.ref fK)))
    (gs : PySem.W.nsIn K mainGlobals "_are_sorts" = some (some (.ref fs)))
    (gS : PySem.W.nsIn K mainGlobals "_law_source_of" = some (some (.ref fS)))
    (gN : PySem.W.nsIn K mainGlobals "_law_next" = some (some (.ref fN)))
    (gO : PySem.W.nsIn K mainGlobals "_law_one" = some (some (.ref fO)))
    (gM : PySem.W.nsIn K mainGlobals "_law_names" = some (some (.ref fM)))
    (gJ : PySem.W.nsIn K mainGlobals "_law_stock" = some (some (.ref fJ)))
    (gW : PySem.W.nsIn K mainGlobals "_law_no_name" = some (some (.ref fW)))
    (gZ : PySem.W.nsIn K mainGlobals "_law_no_sorts" = some (some (.ref fZ)))
    (gY : PySem.W.nsIn K mainGlobals "_law_no_kinds" = some (some (.ref fY)))
    (gT : PySem.W.nsIn K mainGlobals "_law_told" = some (some (.ref fT)))
    (gA : PySem.W.nsIn K mainGlobals "_law_alike" = some (some (.ref fA)))
    (gL : PySem.W.nsIn K mainGlobals "law" = some (some (.ref fL)))
    (iI : PySem.W.findIn K (.ref C) "__init__" = some (some (.ref fI)))
    (iQ : PySem.W.findIn K (.ref C) "__eq__" = some (some (.ref fQ)))
    (iX : PySem.W.findIn K (.ref CN) "__init__" = some (some (.ref fX)))
    (ln : K.lookup fn = some ⟨ocn, odn, .func (PySem.W.fnOf "is_name" "is_name" (defArgs sName) (defBody sName) (defScope sName) .none kVn dcn pmn ann cdn ctn), sln⟩)
    (cn_ : PySem.W.codeIn K cdn "is_name" = true)
    (kn : PySem.W.keepIn K (.ref fn) = true)
    (lp : K.lookup fp = some ⟨ocp, odp, .func (PySem.W.fnOf "is_pair" "is_pair" (defArgs sPair) (defBody sPair) (defScope sPair) .none kVp dcp pmp anp cdp ctp), slp⟩)
    (cp_ : PySem.W.codeIn K cdp "is_pair" = true)
    (kp : PySem.W.keepIn K (.ref fp) = true)
    (ll : K.lookup fl = some ⟨ocl, odl, .func (PySem.W.fnOf "is_list" "is_list" (defArgs sList) (defBody sList) (defScope sList) .none kVl dcl pml anl cdl ctl), sll⟩)
    (cl_ : PySem.W.codeIn K cdl "is_list" = true)
    (kl : PySem.W.keepIn K (.ref fl) = true)
    (lu : K.lookup fu = some ⟨ocu, odu, .func (PySem.W.fnOf "are_unlike" "are_unlike" (defArgs sUnlike) (defBody sUnlike) (defScope sUnlike) .none kVu dcu pmu anu cdu ctu), slu⟩)
    (cu_ : PySem.W.codeIn K cdu "are_unlike" = true)
    (ku : PySem.W.keepIn K (.ref fu) = true)
    (le : K.lookup fe = some ⟨oce, ode, .func (PySem.W.fnOf "_are_ends" "_are_ends" (defArgs sEnds) (defBody sEnds) (defScope sEnds) .none kVe dce pme ane cde cte), sle⟩)
    (ce_ : PySem.W.codeIn K cde "_are_ends" = true)
    (ke : PySem.W.keepIn K (.ref fe) = true)
    (lk : K.lookup fk = some ⟨ock, odk, .func (PySem.W.fnOf "_is_kind" "_is_kind" (defArgs sKind) (defBody sKind) (defScope sKind) .none kVk dck pmk ank cdk ctk), slk⟩)
    (ck_ : PySem.W.codeIn K cdk "_is_kind" = true)
    (kk : PySem.W.keepIn K (.ref fk) = true)
    (lK : K.lookup fK = some ⟨ocK, odK, .func (PySem.W.fnOf "_are_kinds" "_are_kinds" (defArgs sKinds) (defBody sKinds) (defScope sKinds) .none kVK dcK pmK anK cdK ctK), slK⟩)
    (cK_ : PySem.W.codeIn K cdK "_are_kinds" = true)
    (kK : PySem.W.keepIn K (.ref fK) = true)
    (ls : K.lookup fs = some ⟨ocs, ods, .func (PySem.W.fnOf "_are_sorts" "_are_sorts" (defArgs sSorts) (defBody sSorts) (defScope sSorts) .none kVs dcs pms ans cds cts), sls⟩)
    (cs_ : PySem.W.codeIn K cds "_are_sorts" = true)
    (ks : PySem.W.keepIn K (.ref fs) = true)
    (lI : K.lookup fI = some ⟨ocI, odI, .func (PySem.W.fnOf "__init__" "Stock.__init__" (defArgs sInit) (defBody sInit) (defScope sInit) .none kVI dcI pmI anI cdI ctI), slI⟩)
    (cI_ : PySem.W.codeIn K cdI "Stock.__init__" = true)
    (kI : PySem.W.keepIn K (.ref fI) = true)
    (lQ : K.lookup fQ = some ⟨ocQ, odQ, .func (PySem.W.fnOf "__eq__" "Stock.__eq__" (defArgs sEq) (defBody sEq) (defScope sEq) .none kVQ dcQ pmQ anQ cdQ ctQ), slQ⟩)
    (cQ_ : PySem.W.codeIn K cdQ "Stock.__eq__" = true)
    (kQ : PySem.W.keepIn K (.ref fQ) = true)
    (lX : K.lookup fX = some ⟨ocX, odX, .func (PySem.W.fnOf "__init__" "NoStock.__init__" (defArgs sNoSt) (defBody sNoSt) (defScope sNoSt) .none kVX dcX pmX anX cdX ctX), slX⟩)
    (cX_ : PySem.W.codeIn K cdX "NoStock.__init__" = true)
    (kX : PySem.W.keepIn K (.ref fX) = true)
    (lS : K.lookup fS = some ⟨ocS, odS, .func (PySem.W.fnOf "_law_source_of" "_law_source_of" (defArgs sSrc) (defBody sSrc) (defScope sSrc) .none kVS dcS pmS anS cdS ctS), slS⟩)
    (cS_ : PySem.W.codeIn K cdS "_law_source_of" = true)
    (kS : PySem.W.keepIn K (.ref fS) = true)
    (lN : K.lookup fN = some ⟨ocN, odN, .func (PySem.W.fnOf "_law_next" "_law_next" (defArgs sNext) (defBody sNext) (defScope sNext) .none kVN dcN pmN anN cdN ctN), slN⟩)
    (cN_ : PySem.W.codeIn K cdN "_law_next" = true)
    (kN : PySem.W.keepIn K (.ref fN) = true)
    (lO : K.lookup fO = some ⟨ocO, odO, .func (PySem.W.fnOf "_law_one" "_law_one" (defArgs sOne) (defBody sOne) (defScope sOne) .none kVO dcO pmO anO cdO ctO), slO⟩)
    (cO_ : PySem.W.codeIn K cdO "_law_one" = true)
    (kO : PySem.W.keepIn K (.ref fO) = true)
    (lM : K.lookup fM = some ⟨ocM, odM, .func (PySem.W.fnOf "_law_names" "_law_names" (defArgs sNames) (defBody sNames) (defScope sNames) .none kVM dcM pmM anM cdM ctM), slM⟩)
    (cM_ : PySem.W.codeIn K cdM "_law_names" = true)
    (kM : PySem.W.keepIn K (.ref fM) = true)
    (lJ : K.lookup fJ = some ⟨ocJ, odJ, .func (PySem.W.fnOf "_law_stock" "_law_stock" (defArgs sStock) (defBody sStock) (defScope sStock) .none kVJ dcJ pmJ anJ cdJ ctJ), slJ⟩)
    (cJ_ : PySem.W.codeIn K cdJ "_law_stock" = true)
    (kJ : PySem.W.keepIn K (.ref fJ) = true)
    (lW : K.lookup fW = some ⟨ocW, odW, .func (PySem.W.fnOf "_law_no_name" "_law_no_name" (defArgs sNoName) (defBody sNoName) (defScope sNoName) .none kVW dcW pmW anW cdW ctW), slW⟩)
    (cW_ : PySem.W.codeIn K cdW "_law_no_name" = true)
    (kW : PySem.W.keepIn K (.ref fW) = true)
    (lZ : K.lookup fZ = some ⟨ocZ, odZ, .func (PySem.W.fnOf "_law_no_sorts" "_law_no_sorts" (defArgs sNoSorts) (defBody sNoSorts) (defScope sNoSorts) .none kVZ dcZ pmZ anZ cdZ ctZ), slZ⟩)
    (cZ_ : PySem.W.codeIn K cdZ "_law_no_sorts" = true)
    (kZ : PySem.W.keepIn K (.ref fZ) = true)
    (lY : K.lookup fY = some ⟨ocY, odY, .func (PySem.W.fnOf "_law_no_kinds" "_law_no_kinds" (defArgs sNoKinds) (defBody sNoKinds) (defScope sNoKinds) .none kVY dcY pmY anY cdY ctY), slY⟩)
    (cY_ : PySem.W.codeIn K cdY "_law_no_kinds" = true)
    (kY : PySem.W.keepIn K (.ref fY) = true)
    (lT : K.lookup fT = some ⟨ocT, odT, .func (PySem.W.fnOf "_law_told" "_law_told" (defArgs sTold) (defBody sTold) (defScope sTold) .none kVT dcT pmT anT cdT ctT), slT⟩)
    (cT_ : PySem.W.codeIn K cdT "_law_told" = true)
    (kT : PySem.W.keepIn K (.ref fT) = true)
    (lA : K.lookup fA = some ⟨ocA, odA, .func (PySem.W.fnOf "_law_alike" "_law_alike" (defArgs sAlike) (defBody sAlike) (defScope sAlike) .none kVA dcA pmA anA cdA ctA), slA⟩)
    (cA_ : PySem.W.codeIn K cdA "_law_alike" = true)
    (kA : PySem.W.keepIn K (.ref fA) = true)
    (lL : K.lookup fL = some ⟨ocL, odL, .func (PySem.W.fnOf "law" "law" (defArgs sLaw) (defBody sLaw) (defScope sLaw) .none kVL dcL pmL anL cdL ctL), slL⟩)
    (cL_ : PySem.W.codeIn K cdL "law" = true)
    (kL : PySem.W.keepIn K (.ref fL) = true)
    (tb1 : stkB K C fI fQ = true)
    (tb2 : nosB K CN CD CW CE fX = true)
    (z_int : PySem.W.nsIn K mainGlobals "int" = some none)
    (z_len : PySem.W.nsIn K mainGlobals "len" = some none)
    (z_range : PySem.W.nsIn K mainGlobals "range" = some none)
    (z_isinstance : PySem.W.nsIn K mainGlobals "isinstance" = some none)
    (z_str : PySem.W.nsIn K mainGlobals "str" = some none)
    (z_tuple : PySem.W.nsIn K mainGlobals "tuple" = some none)
    (z_list : PySem.W.nsIn K mainGlobals "list" = some none)
    (z_all : PySem.W.nsIn K mainGlobals "all" = some none)
    (z_set : PySem.W.nsIn K mainGlobals "set" = some none)
    (z_dict : PySem.W.nsIn K mainGlobals "dict" = some none)
    (z_sorted : PySem.W.nsIn K mainGlobals "sorted" = some none) :
    ∃ fd : FuncData, (∀ (s : Shared) (v : Value), BindsTo s fd ⟨[v], []⟩ [("_law_script", v)]) ∧ ∀ base : Heap, K.In base → base.Ns mainGlobals mg → FnOk l.prog w K mg base CX0 8 fa fd ["_law_script"] (spLaw K) := by
  have e := hfa.symm.trans (PySem.W.mg_of X G gL)
  cases e
  have mo := fun {n : Str} {v : Value} (q : PySem.W.nsIn K mainGlobals n = some (some v)) => PySem.W.mg_of X G q
  have mz := fun {n : Str} (q : PySem.W.nsIn K mainGlobals n = some none) => PySem.W.mg_none_of X G q
  obtain ⟨T, A⟩ := all_of tb1 tb2 xl rb (mo aC) (mo aCN) (mo aCD) (mo aCW) (mo aCE)
  have M : Mods mg := ⟨⟨_, mo cT⟩, ⟨_, mo c0⟩, ⟨_, mo c1⟩, ⟨_, mo c2⟩, ⟨_, mo c3⟩, mz z_isinstance, mz z_str, mz z_tuple, mz z_list, mz z_len, mz z_all, mz z_set, mz z_dict, mz z_sorted⟩
  have Fn := fun_mk (st := sName) ln cn_ kn
  have Fp := fun_mk (st := sPair) lp cp_ kp
  have Fl := fun_mk (st := sList) ll cl_ kl
  have Fu := fun_mk (st := sUnlike) lu cu_ ku
  have Fe := fun_mk (st := sEnds) le ce_ ke
  have Fk := fun_mk (st := sKind) lk ck_ kk
  have FK := fun_mk (st := sKinds) lK cK_ kK
  have Fs := fun_mk (st := sSorts) ls cs_ ks
  have FI := fun_mk (st := sInit) lI cI_ kI
  have FQ := fun_mk (st := sEq) lQ cQ_ kQ
  have FX := fun_mk (st := sNoSt) lX cX_ kX
  have FS := fun_mk (st := sSrc) lS cS_ kS
  have FN := fun_mk (st := sNext) lN cN_ kN
  have FO := fun_mk (st := sOne) lO cO_ kO
  have FM := fun_mk (st := sNames) lM cM_ kM
  have FJ := fun_mk (st := sStock) lJ cJ_ kJ
  have FW := fun_mk (st := sNoName) lW cW_ kW
  have FZ := fun_mk (st := sNoSorts) lZ cZ_ kZ
  have FY := fun_mk (st := sNoKinds) lY cY_ kY
  have FT := fun_mk (st := sTold) lT cT_ kT
  have FA := fun_mk (st := sAlike) lA cA_ kA
  have FL := fun_mk (st := sLaw) lL cL_ kL
  have bn := Fn.binds (ps := ["thing"]) fun _ _ _ _ _ _ us hl => match us, hl with | [_], _ => rfl
  have bp := Fp.binds (ps := ["thing"]) fun _ _ _ _ _ _ us hl => match us, hl with | [_], _ => rfl
  have bl := Fl.binds (ps := ["thing", "fewest", "most"]) fun _ _ _ _ _ _ us hl => match us, hl with | [_, _, _], _ => rfl
  have bu := Fu.binds (ps := ["things"]) fun _ _ _ _ _ _ us hl => match us, hl with | [_], _ => rfl
  have be := Fe.binds (ps := ["ends", "partners"]) fun _ _ _ _ _ _ us hl => match us, hl with | [_, _], _ => rfl
  have bk := Fk.binds (ps := ["row", "partners"]) fun _ _ _ _ _ _ us hl => match us, hl with | [_, _], _ => rfl
  have bK := FK.binds (ps := ["kinds", "partners"]) fun _ _ _ _ _ _ us hl => match us, hl with | [_, _], _ => rfl
  have bs := Fs.binds (ps := ["sorts"]) fun _ _ _ _ _ _ us hl => match us, hl with | [_], _ => rfl
  have bI := FI.binds (ps := ["self", "sorts", "kinds"]) fun _ _ _ _ _ _ us hl => match us, hl with | [_, _, _], _ => rfl
  have bQ := FQ.binds (ps := ["self", "other"]) fun _ _ _ _ _ _ us hl => match us, hl with | [_, _], _ => rfl
  have bX := FX.binds (ps := ["self", "part"]) fun _ _ _ _ _ _ us hl => match us, hl with | [_, _], _ => rfl
  have bS := FS.binds (ps := ["_law_cell"]) fun _ _ _ _ _ _ us hl => match us, hl with | [_], _ => rfl
  have bN := FN.binds (ps := ["_law_source", "_law_many"]) fun _ _ _ _ _ _ us hl => match us, hl with | [_, _], _ => rfl
  have bO := FO.binds (ps := ["_law_source", "_law_some"]) fun _ _ _ _ _ _ us hl => match us, hl with | [_, _], _ => rfl
  have bM := FM.binds (ps := ["_law_source", "_law_many"]) fun _ _ _ _ _ _ us hl => match us, hl with | [_, _], _ => rfl
  have bJ := FJ.binds (ps := ["_law_source", "_law_most"]) fun _ _ _ _ _ _ us hl => match us, hl with | [_, _], _ => rfl
  have bW := FW.binds (ps := ["_law_source"]) fun _ _ _ _ _ _ us hl => match us, hl with | [_], _ => rfl
  have bZ := FZ.binds (ps := ["_law_source", "_law_sorts"]) fun _ _ _ _ _ _ us hl => match us, hl with | [_, _], _ => rfl
  have bY := FY.binds (ps := ["_law_source", "_law_sorts", "_law_kinds"]) fun _ _ _ _ _ _ us hl => match us, hl with | [_, _, _], _ => rfl
  have bT := FT.binds (ps := ["_law_sorts", "_law_kinds"]) fun _ _ _ _ _ _ us hl => match us, hl with | [_, _], _ => rfl
  have bA := FA.binds (ps := ["_law_sorts", "_law_kinds"]) fun _ _ _ _ _ _ us hl => match us, hl with | [_, _], _ => rfl
  refine ⟨PySem.W.fnOf "law" "law" (defArgs sLaw) (defBody sLaw) (defScope sLaw) .none kVL dcL pmL anL cdL ctL, fun s v => .of_eq rfl, fun base hb1 hb2 => ?_⟩
  have Gn : FnOk l.prog w K mg base CX0 1 fn _ ["thing"] spName := ok_name Fn M
  have Gp : FnOk l.prog w K mg base CX0 1 fp _ ["thing"] spPair := ok_pair Fp M
  have Gl : FnOk l.prog w K mg base CX0 1 fl _ ["thing", "fewest", "most"] spList := ok_list Fl M
  have Gu : FnOk l.prog w K mg base CX0 1 fu _ ["things"] (spUnlike K) := ok_unlike Fu M
  have Ge : FnOk l.prog w K mg base CX0 2 fe _ ["ends", "partners"] spEnds := ok_ends Fe M Gn kn bn (mo gn)
  have Gk : FnOk l.prog w K mg base CX0 3 fk _ ["row", "partners"] spKind := ok_kind Fk Gp kp bp (mo gp) Gn kn bn (mo gn) Ge ke be (mo ge)
  have GK : FnOk l.prog w K mg base CX0 4 fK _ ["kinds", "partners"] spKinds := ok_kinds FK M Gl kl bl (mo gl) Gk kk bk (mo gk) Gu ku bu (mo gu)
  have Gs : FnOk l.prog w K mg base CX0 2 fs _ ["sorts"] spSorts := ok_sorts Fs M Gl kl bl (mo gl) Gp kp bp (mo gp) Gn kn bn (mo gn)
  have GX : FnOk l.prog w K mg base CX0 1 fX _ ["self", "part"] (spExI CN "part") := ok_exinit rfl scNoSt rfl rfl (by decide) (by decide) FX T.st.ox T.st.noP
  have GI : FnOk l.prog w K mg base (L2.CX l.prog w) 5 fI _ ["self", "sorts", "kinds"] (spInit C CN) := ok_init FI M T.st Gs ks bs (mo gs) GK kK bK (mo gK) GX bX
  have GQ : FnOk l.prog w K mg base CX0 1 fQ _ ["self", "other"] (spSEq K C) := ok_eq FQ M T.st
  have GS : FnOk l.prog w K mg base CX0 1 fS _ ["_law_cell"] spSrc := ok_src FS (mz z_int)
  have GN : FnOk l.prog w K mg base CX0 1 fN _ ["_law_source", "_law_many"] spNext := ok_next FN
  have GO : FnOk l.prog w K mg base CX0 2 fO _ ["_law_source", "_law_some"] spOne := ok_one FO FN bN (mo gN) (mz z_len)
  have GM : FnOk l.prog w K mg base CX0 3 fM _ ["_law_source", "_law_many"] spNames := ok_names FM GN kN bN (mo gN) GO kO bO (mo gO) (mz z_range)
  have GJ : FnOk l.prog w K mg base CX0 4 fJ _ ["_law_source", "_law_most"] spStock := ok_stock FJ M GN kN bN (mo gN) GO kO bO (mo gO) GM kM bM (mo gM) (mz z_range)
  have GW : FnOk l.prog w K mg base CX0 3 fW _ ["_law_source"] spNoName := ok_noName FW GO kO bO (mo gO)
  have GZ : FnOk l.prog w K mg base CX0 4 fZ _ ["_law_source", "_law_sorts"] spNoSorts := ok_noSorts FZ M GN kN bN (mo gN) GO kO bO (mo gO) GW kW bW (mo gW)
  have GY : FnOk l.prog w K mg base CX0 4 fY _ ["_law_source", "_law_sorts", "_law_kinds"] spNoKinds := ok_noKinds FY M GN kN bN (mo gN) GO kO bO (mo gO) GW kW bW (mo gW)
  have GT : FnOk l.prog w K mg base CX0 7 fT _ ["_law_sorts", "_law_kinds"] spTold := ok_told FT M T GI bI
  have GA : FnOk l.prog w K mg base CX0 7 fA _ ["_law_sorts", "_law_kinds"] spAlike := ok_alike FA M T A GI bI GQ bQ
  exact ok_law FL M T GI bI GS kS bS (mo gS) GN kN bN (mo gN) GJ kJ bJ (mo gJ) GY kY bY (mo gY) GZ kZ bZ (mo gZ) GT kT bT (mo gT) GA kA bA (mo gA)
end Toy
set_option Elab.async false
set_option linter.all false
set_option maxRecDepth 100000
open PySem PySem.W PyProof.Rows
set_option maxHeartbeats 0 in
theorem PySem.Challenge.cw_endsum_k01_stocks_made_holds : PySem.Challenge.rw_endsum_k01_stocks_made.Holds := by
  w_on; o_law; k_head; (case hw => w_witness2)
  k_fill
  refine L2.walk_of (l := PySem.Challenge.rw_endsum_k01_stocks_made) (n := 63) (k := 8) (x := "_law_script") (CX := fun _ => L2.CX0) (sp := fun w => Toy.spLaw _) rfl (by decide) rfl ⟨rfl, by decide, by decide⟩ (fun w h Y => PySem.W.kIn_of Y) ?F (fun _ _ a ns hl _ hS => ⟨a, ns, rfl, hS, hl, fun _ => rfl⟩) (fun _ _ _ _ _ h => h)
  case F =>
    intro w mg fa h KX G hmg
    refine' Toy.all_mk KX G hmg ?q_aC ?q_aCN ?q_aCD ?q_aCW ?q_aCE ?q_cT ?q_c0 ?q_c1 ?q_c2 ?q_c3 ?q_xl ?q_rb ?q_gn ?q_gp ?q_gl ?q_gu ?q_ge ?q_gk ?q_gK ?q_gs ?q_gS ?q_gN ?q_gO ?q_gM ?q_gJ ?q_gW ?q_gZ ?q_gY ?q_gT ?q_gA ?q_gL ?q_iI ?q_iQ ?q_iX ?q_ln ?q_cn_ ?q_kn ?q_lp ?q_cp_ ?q_kp ?q_ll ?q_cl_ ?q_kl ?q_lu ?q_cu_ ?q_ku ?q_le ?q_ce_ ?q_ke ?q_lk ?q_ck_ ?q_kk ?q_lK ?q_cK_ ?q_kK ?q_ls ?q_cs_ ?q_ks ?q_lI ?q_cI_ ?q_kI ?q_lQ ?q_cQ_ ?q_kQ ?q_lX ?q_cX_ ?q_kX ?q_lS ?q_cS_ ?q_kS ?q_lN ?q_cN_ ?q_kN ?q_lO ?q_cO_ ?q_kO ?q_lM ?q_cM_ ?q_kM ?q_lJ ?q_cJ_ ?q_kJ ?q_lW ?q_cW_ ?q_kW ?q_lZ ?q_cZ_ ?q_kZ ?q_lY ?q_cY_ ?q_kY ?q_lT ?q_cT_ ?q_kT ?q_lA ?q_cA_ ?q_kA ?q_lL ?q_cL_ ?q_kL ?q_tb1 ?q_tb2 ?q_z_int ?q_z_len ?q_z_range ?q_z_isinstance ?q_z_str ?q_z_tuple ?q_z_list ?q_z_all ?q_z_set ?q_z_dict ?q_z_sorted
    (case q_aC => k_is)
    (case q_aCN => k_is)
    (case q_aCD => k_is)
    (case q_aCW => k_is)
    (case q_aCE => k_is)
    (case q_cT => k_is)
    (case q_c0 => k_is)
    (case q_c1 => k_is)
    (case q_c2 => k_is)
    (case q_c3 => k_is)
    (case q_xl => k_is)
    (case q_rb => rfl)
    (case q_gn => k_is)
    (case q_gp => k_is)
    (case q_gl => k_is)
    (case q_gu => k_is)
    (case q_ge => k_is)
    (case q_gk => k_is)
    (case q_gK => k_is)
    (case q_gs => k_is)
    (case q_gS => k_is)
    (case q_gN => k_is)
    (case q_gO => k_is)
    (case q_gM => k_is)
    (case q_gJ => k_is)
    (case q_gW => k_is)
    (case q_gZ => k_is)
    (case q_gY => k_is)
    (case q_gT => k_is)
    (case q_gA => k_is)
    (case q_gL => k_is)
    (case q_iI => k_is)
    (case q_iQ => k_is)
    (case q_iX => k_is)
    (case q_ln => k_is)
    (case q_cn_ => k_is)
    (case q_kn => k_is)
    (case q_lp => k_is)
    (case q_cp_ => k_is)
    (case q_kp => k_is)
    (case q_ll => k_is)
    (case q_cl_ => k_is)
    (case q_kl => k_is)
    (case q_lu => k_is)
    (case q_cu_ => k_is)
    (case q_ku => k_is)
    (case q_le => k_is)
    (case q_ce_ => k_is)
    (case q_ke => k_is)
    (case q_lk => k_is)
    (case q_ck_ => k_is)
    (case q_kk => k_is)
    (case q_lK => k_is)
    (case q_cK_ => k_is)
    (case q_kK => k_is)
    (case q_ls => k_is)
    (case q_cs_ => k_is)
    (case q_ks => k_is)
    (case q_lI => k_is)
    (case q_cI_ => k_is)
    (case q_kI => k_is)
    (case q_lQ => k_is)
    (case q_cQ_ => k_is)
    (case q_kQ => k_is)
    (case q_lX => k_is)
    (case q_cX_ => k_is)
    (case q_kX => k_is)
    (case q_lS => k_is)
    (case q_cS_ => k_is)
    (case q_kS => k_is)
    (case q_lN => k_is)
    (case q_cN_ => k_is)
    (case q_kN => k_is)
    (case q_lO => k_is)
    (case q_cO_ => k_is)
    (case q_kO => k_is)
    (case q_lM => k_is)
    (case q_cM_ => k_is)
    (case q_kM => k_is)
    (case q_lJ => k_is)
    (case q_cJ_ => k_is)
    (case q_kJ => k_is)
    (case q_lW => k_is)
    (case q_cW_ => k_is)
    (case q_kW => k_is)
    (case q_lZ => k_is)
    (case q_cZ_ => k_is)
    (case q_kZ => k_is)
    (case q_lY => k_is)
    (case q_cY_ => k_is)
    (case q_kY => k_is)
    (case q_lT => k_is)
    (case q_cT_ => k_is)
    (case q_kT => k_is)
    (case q_lA => k_is)
    (case q_cA_ => k_is)
    (case q_kA => k_is)
    (case q_lL => k_is)
    (case q_cL_ => k_is)
    (case q_kL => k_is)
    (case q_tb1 => kernel_rfl)
    (case q_tb2 => kernel_rfl)
    (case q_z_int => k_is)
    (case q_z_len => k_is)
    (case q_z_range => k_is)
    (case q_z_isinstance => k_is)
    (case q_z_str => k_is)
    (case q_z_tuple => k_is)
    (case q_z_list => k_is)
    (case q_z_all => k_is)
    (case q_z_set => k_is)
    (case q_z_dict => k_is)
    (case q_z_sorted => k_is)
