import PyProof.Rows.All
import Wide.All
import OpenK.AllK
import Wide.FinOn
import KE.KExcIs
import KE.KMathG
import KE.KMathGC
import KE.GoesMore
import KE.SortData
import KE.DataCmp
import KE.DataMinMax
import KE.KDictZip
import KE.KTurns
import HandS.ForMost
import HandS.ForExc
import HandS.ExcIs
import HandS.ExcInit
import HandS.ExcValue
import HandS.ExcField
import HandS.IsInst
import HandS.OwnEq
import HandS.Style
import HandS.TupMul
import HandS.TupAny
import HandS.Walk
import HandS.Strs
import HandS.SetKeys
import HandS.Gcd
import HandS.Wide
import HandS.SetFor
import HandS.Conv
import HandS.Deep
import HandS.Star
import PySem.Challenge.RW_endsum_k22_pairings_told
set_option Elab.async false
set_option linter.all false
set_option maxRecDepth 100000
set_option maxHeartbeats 2000000
namespace Toy
open PySem PySem.Spec PyProof.Rows L2
/-! ### plain data in the heap -/
/-- a text of moderate length -/
def okS (x : Str) : Prop := x.length ≤ 1000 ∧ PyData.strOk x = true
/-- a tuple of these is read at a -/
structure TupAt (H : Hp) (a : Addr) (xs : List V) : Prop where
  rd : Rd H a (.tup xs)
theorem TupAt.same {H H' : Hp} (s : Same H H') {a : Addr} {xs : List V} (h : TupAt H a xs) : TupAt H' a xs := ⟨h.rd.elim (fun e => .inl (s _ _ e)) fun ⟨o, e⟩ => .inr ⟨o, s _ _ e⟩⟩
theorem TupAt.of {H : Hp} {a : Addr} {xs : List V} (e : H a = some (.tup xs)) : TupAt H a xs := ⟨.inl e⟩
theorem TupAt.sq {K : PySem.W.Frag} {H : Hp} {a : Addr} {xs : List V} (h : TupAt H a xs) : SqT K H a xs := .inl h.rd
mutual
inductive Dt (H : Hp) : V → PyData → Prop
  | non : Dt H .non .none
  | bl (b : Bool) : Dt H (.bl b) (.bool b)
  | int (i : Int) : Dt H (.int i) (.int i)
  | str (x : Str) : okS x → Dt H (.str x) (.str x)
  | lst {a : Addr} {xs : List V} {ds : List PyData} : H a = some (.lst xs) → xs.length ≤ 1000 → DtAll H xs ds → Dt H (.ref a) (.list ds)
  | tup {a : Addr} {xs : List V} {ds : List PyData} : TupAt H a xs → xs.length ≤ 1000 → DtAll H xs ds → Dt H (.ref a) (.tuple ds)
  | dct {a : Addr} : H a = some (.dK []) → Dt H (.ref a) (.dict [])
inductive DtAll (H : Hp) : List V → List PyData → Prop
  | nil : DtAll H [] []
  | cons {v : V} {vs : List V} {d : PyData} {ds : List PyData} : Dt H v d → DtAll H vs ds → DtAll H (v :: vs) (d :: ds)
end
mutual
theorem Dt.same {H H' : Hp} (s : Same H H') : ∀ {v : V} {d : PyData}, Dt H v d → Dt H' v d
  | _, _, .non => .non
  | _, _, .bl b => .bl b
  | _, _, .int i => .int i
  | _, _, .str x h => .str x h
  | _, _, .lst e l r => .lst (s _ _ e) l (DtAll.same s r)
  | _, _, .tup e l r => .tup (TupAt.same s e) l (DtAll.same s r)
  | _, _, .dct e => .dct (s _ _ e)
theorem DtAll.same {H H' : Hp} (s : Same H H') : ∀ {vs : List V} {ds : List PyData}, DtAll H vs ds → DtAll H' vs ds
  | _, _, .nil => .nil
  | _, _, .cons h t => .cons (Dt.same s h) (DtAll.same s t)
end
theorem DtAll.len {H : Hp} : ∀ {vs : List V} {ds : List PyData}, DtAll H vs ds → vs.length = ds.length
  | _, _, .nil => rfl
  | _, _, .cons _ t => by
    rw [List.length_cons, List.length_cons, DtAll.len t]
theorem DtAll.two {H : Hp} {xs : List V} {ds : List PyData} (r : DtAll H xs ds) (h : ds.length = 2) : ∃ v0 v1 d0 d1, xs = [v0, v1] ∧ ds = [d0, d1] ∧ Dt H v0 d0 ∧ Dt H v1 d1 := by
  cases r with
  | nil => cases h
  | cons h0 r =>
    cases r with
    | nil => cases h
    | cons h1 r =>
      cases r with
      | nil => exact ⟨_, _, _, _, rfl, rfl, h0, h1⟩
      | cons h2 r =>
        rw [List.length_cons, List.length_cons, List.length_cons] at h
        omega
theorem DtAll.at_ {H : Hp} : ∀ {vs : List V} {ds : List PyData} {i : Nat} {v : V}, DtAll H vs ds → vs[i]? = some v → ∃ d, ds[i]? = some d ∧ Dt H v d
  | _, _, i, _, .nil, e => by simp at e
  | _, _, 0, _, .cons h _, e => by
    cases e
    exact ⟨_, rfl, h⟩
  | _, _, i + 1, _, .cons _ t, e => DtAll.at_ (i := i) t e
theorem DtAll.at' {H : Hp} : ∀ {vs : List V} {ds : List PyData} {i : Nat} {d : PyData}, DtAll H vs ds → ds[i]? = some d → ∃ v, vs[i]? = some v ∧ Dt H v d
  | _, _, i, _, .nil, e => by simp at e
  | _, _, 0, _, .cons h _, e => by
    cases e
    exact ⟨_, rfl, h⟩
  | _, _, i + 1, _, .cons _ t, e => DtAll.at' (i := i) t e
theorem DtAll.app {H : Hp} : ∀ {vs ws : List V} {ds es : List PyData}, DtAll H vs ds → DtAll H ws es → DtAll H (vs ++ ws) (ds ++ es)
  | _, _, _, _, .nil, s => s
  | _, _, _, _, .cons h t, s => .cons h (DtAll.app t s)
theorem DtAll.take {H : Hp} : ∀ {vs : List V} {ds : List PyData} (n : Nat), DtAll H vs ds → DtAll H (vs.take n) (ds.take n)
  | _, _, 0, _ => .nil
  | _, _, _ + 1, .nil => .nil
  | _, _, n + 1, .cons h t => .cons h (DtAll.take n t)
theorem DtAll.drop {H : Hp} : ∀ {vs : List V} {ds : List PyData} (n : Nat), DtAll H vs ds → DtAll H (vs.drop n) (ds.drop n)
  | _, _, 0, h => h
  | _, _, _ + 1, .nil => .nil
  | _, _, n + 1, .cons _ t => DtAll.drop n t
theorem DtAll.rev {H : Hp} : ∀ {vs : List V} {ds : List PyData}, DtAll H vs ds → DtAll H vs.reverse ds.reverse
  | _, _, .nil => .nil
  | _, _, .cons h t => by
    rw [List.reverse_cons, List.reverse_cons]
    exact DtAll.app (DtAll.rev t) (.cons h .nil)
theorem DtAll.strs {H : Hp} : ∀ xs : List Str, (∀ x ∈ xs, okS x) → DtAll H (xs.map V.str) (xs.map PyData.str)
  | [], _ => .nil
  | x :: xs, h => .cons (.str x (h x List.mem_cons_self)) (DtAll.strs xs fun y hy => h y (List.mem_cons_of_mem _ hy))
mutual
def noDict : PyData → Bool
  | .dict _ => false
  | .list ds => noDicts ds
  | .tuple ds => noDicts ds
  | _ => true
def noDicts : List PyData → Bool
  | [] => true
  | d :: ds => noDict d && noDicts ds
end
mutual
theorem Dt.dp {K : PySem.W.Frag} {H : Hp} : ∀ {v : V} {d : PyData}, Dt H v d → noDict d = true → Dp K H v d
  | _, _, .non, _ => .non
  | _, _, .bl b, _ => .bl b
  | _, _, .int i, _ => .int i
  | _, _, .str x _, _ => .str x
  | _, _, .lst e _ r, n => .lst (SqL.of e) (DtAll.dp r n)
  | _, _, .tup e _ r, n => .tup e.sq (DtAll.dp r n)
  | _, _, .dct e, n => nomatch n
theorem DtAll.dp {K : PySem.W.Frag} {H : Hp} : ∀ {vs : List V} {ds : List PyData}, DtAll H vs ds → noDicts ds = true → DpAll K H vs ds
  | _, _, .nil, _ => .nil
  | _, _, .cons h t, n => by
    have n2 : (noDict _ && noDicts _) = true := n
    rw [Bool.and_eq_true] at n2
    exact .cons (Dt.dp h n2.1) (DtAll.dp t n2.2)
end
mutual
theorem Dt.can {H : Hp} : ∀ {v : V} {d : PyData}, Dt H v d → noDict d = true → d.canLay0 = true
  | _, _, .non, _ => rfl
  | _, _, .bl b, _ => rfl
  | _, _, .int i, _ => rfl
  | _, _, .str x h, _ => h.2
  | _, _, .lst e _ r, n => DtAll.can r n
  | _, _, .tup e _ r, n => DtAll.can r n
  | _, _, .dct e, n => nomatch n
theorem DtAll.can {H : Hp} : ∀ {vs : List V} {ds : List PyData}, DtAll H vs ds → noDicts ds = true → PyData.canLayAll0 ds = true
  | _, _, .nil, _ => rfl
  | _, _, .cons h t, n => by
    have n2 : (noDict _ && noDicts _) = true := n
    rw [Bool.and_eq_true] at n2
    show (PyData.canLay0 _ && PyData.canLayAll0 _) = true
    rw [Dt.can h n2.1, DtAll.can t n2.2]
    rfl
end
/-- its type -/
def tyN : PyData → String
  | .none => "NoneType"
  | .bool _ => "bool"
  | .int _ => "int"
  | .str _ => "str"
  | .list _ => "list"
  | .tuple _ => "tuple"
  | .dict _ => "dict"
theorem Dt.ty {K : PySem.W.Frag} {H : Hp} {v : V} {d : PyData} (h : Dt H v d) : TyX K H v (.type (tyN d)) := by
  cases h with
  | non => exact .base .non
  | bl b => exact .base (.bl b)
  | int i => exact .base (.int i)
  | str x _ => exact .base (.str x)
  | lst e _ _ => exact .base (.lst e)
  | tup e _ _ => exact e.rd.elim (fun e => .base (.tup e)) fun ⟨o, e⟩ => .fTuple e
  | dct e => exact .base (.dK e)
/-- isinstance(v, T) of plain data -/
def rIsd (T : String) : List V → Hp → VK → Prop := fun xs H Q => ∃ (v : V) (d : PyData) (b : Bool), xs = [v, .ty T] ∧ Dt H v d ∧ kitB (tyN d) T = some b ∧ Q (.bl b) H
theorem call_isd {X : Cx} {T : String} : CallR X (.builtin "isinstance") (rIsd T) := by
  intro pins s σ H xs us Q I r h
  obtain ⟨v, d, b, rfl, hd, hb, q⟩ := h
  exact call_isi pins s σ H _ us Q I r ⟨v, .ty T, _, _, b, rfl, .ty T, hd.ty, kit_ty hb, q⟩
theorem kit_str (d : PyData) : kitB (tyN d) "str" = some (match d with | .str _ => true | _ => false) := by
  cases d <;> (dsimp only [tyN]; decide +kernel)
theorem kit_tuple (d : PyData) : kitB (tyN d) "tuple" = some (match d with | .tuple _ => true | _ => false) := by
  cases d <;> (dsimp only [tyN]; decide +kernel)
theorem kit_list (d : PyData) : kitB (tyN d) "list" = some (match d with | .list _ => true | _ => false) := by
  cases d <;> (dsimp only [tyN]; decide +kernel)
theorem kit_int (d : PyData) : kitB (tyN d) "int" = some (match d with | .int _ => true | .bool _ => true | _ => false) := by
  cases d <;> (dsimp only [tyN]; decide +kernel)
theorem kit_bool (d : PyData) : kitB (tyN d) "bool" = some (match d with | .bool _ => true | _ => false) := by
  cases d <;> (dsimp only [tyN]; decide +kernel)
end Toy
set_option Elab.async false
set_option linter.all false
set_option maxRecDepth 100000
set_option maxHeartbeats 3200000
/-! ### the keys met, each once, in the order of their first place -/
namespace Toy
section
variable {κ : Type} [DecidableEq κ]
def addMet (σ : List κ) (k : κ) : List κ := if k ∈ σ then σ else σ ++ [k]
def met (ks : List κ) : List κ := ks.foldl addMet []
theorem met_snoc (ks : List κ) (k : κ) : met (ks ++ [k]) = addMet (met ks) k := by
  unfold met
  rw [List.foldl_append]
  rfl
theorem mem_add (σ : List κ) (k j : κ) : j ∈ addMet σ k ↔ j ∈ σ ∨ j = k := by
  unfold addMet
  by_cases h : k ∈ σ
  · rw [if_pos h]
    constructor
    · exact fun q => Or.inl q
    · rintro (q | rfl)
      · exact q
      · exact h
  · rw [if_neg h, List.mem_append, List.mem_singleton]
theorem rev_ind {P : List κ → Prop} (h0 : P []) (h1 : ∀ l x, P l → P (l ++ [x])) (l : List κ) : P l := by
  have key : ∀ n (l : List κ), l.length = n → P l := by
    intro n
    induction n with
    | zero =>
      intro l hl
      rw [List.length_eq_zero_iff.mp hl]
      exact h0
    | succ n ih =>
      intro l hl
      have hne : l ≠ [] := fun e => by
        rw [e] at hl
        cases hl
      have e := List.dropLast_concat_getLast hne
      rw [← e]
      exact h1 _ _ (ih _ (by rw [List.length_dropLast, hl]; rfl))
  exact key _ l rfl
theorem mem_met (ks : List κ) (j : κ) : j ∈ met ks ↔ j ∈ ks := by
  induction ks using rev_ind with
  | h0 => exact Iff.rfl
  | h1 l x ih => rw [met_snoc, mem_add, ih, List.mem_append, List.mem_singleton]
theorem met_le (ks : List κ) : (met ks).length ≤ ks.length := by
  induction ks using rev_ind with
  | h0 => exact Nat.le_refl _
  | h1 l x ih =>
    rw [met_snoc, List.length_append, List.length_singleton]
    unfold addMet
    split
    · omega
    · rw [List.length_append, List.length_singleton]
      omega
theorem met_full (ks : List κ) : (met ks).length = ks.length ↔ ks.Nodup := by
  induction ks using rev_ind with
  | h0 => exact ⟨fun _ => List.nodup_nil, fun _ => rfl⟩
  | h1 l x ih =>
    have le := met_le l
    rw [met_snoc, List.length_append, List.length_singleton, List.nodup_append]
    unfold addMet
    by_cases h : x ∈ met l
    · rw [if_pos h]
      have hm := (mem_met l x).mp h
      constructor
      · intro e
        omega
      · rintro ⟨_, _, q⟩
        exact absurd rfl (q x hm x (List.mem_singleton.mpr rfl))
    · rw [if_neg h, List.length_append, List.length_singleton]
      have hm : x ∉ l := fun q => h ((mem_met l x).mpr q)
      constructor
      · intro e
        refine ⟨ih.mp (by omega), (by simp), fun a ha b hb => ?_⟩
        rw [List.mem_singleton.mp hb]
        intro e2
        exact hm (e2 ▸ ha)
      · rintro ⟨q, _, _⟩
        rw [ih.mpr q]
end
end Toy
namespace PySem
open PyProof.Rows Toy
section
variable {κ : Type} [DecidableEq κ] [BEq κ] [LawfulBEq κ] {prog : Program} {w : World} {A : Around} {R : Result → Shared → Prop} {I : Addr} {fp wr : List Addr} {G : Array GenState → Array GenState → Prop} {n : Nat} {P : Nat → Value → Prop} {St : Nat → Shared → Prop}
theorem toy_loop (knd : KeyKind prog w κ) (W : WalksS prog w A.in1 I fp wr G n P St) (S : Addr) (out : S ∉ fp) (ks : List κ) (hlen : ks.length = n) (room : n + 1 < scanBound)
    (hv : ∀ i v, P i v → ∃ k, ks[i]? = some k ∧ knd.is k v = true ∧ v.scannable = true) :
    ∀ (left i : Nat) (s : Shared), n - i = left → i ≤ n → St i s → s.heap.SetOf knd S (fun j => decide (j ∈ met (ks.take i))) (met (ks.take i)).length →
      (∀ s', Moved (S :: wr) G s s' → s'.heap.SetOf knd S (fun j => decide (j ∈ met ks)) (met ks).length → R (.ok (.ret .none)) s') →
      codeAny (model prog w) A (.builtin "set.update.loop" ⟨[.ref S, .ref I], []⟩) R s := by
  have outW : S ∉ wr := fun z => out (W.sub _ z)
  have more : ∀ b ∈ wr, b ∈ S :: wr := fun b z => List.mem_cons_of_mem _ z
  intro left
  induction left with
  | zero =>
    intro i s hk hi hst hS fin
    have hin : i = n := by omega
    subst hin
    refine codeAny_builtin PyProof.Rows.F.entry_set_update_loop ?_
    rw [Around.under_plainId PyProof.Rows.F.plain_set_update_loop _]
    show wpAny _ A.in1 (pyNext (.ref I) >>= _) _ _ s
    refine wpAny_bind (W.done s _ _ hst fun s' mv => ?_)
    show wpAny _ A.in1 (ret Value.none) _ _ s'
    rw [← hlen, List.take_length] at hS
    obtain ⟨o, es, ep, t, ho, others⟩ := hS
    exact wpAny_pure (fin s' (mv.mono more) ⟨o, es, ep, t, mv.heap S _ outW ho, others⟩)
  | succ left ih =>
    intro i s hk hi hst hS fin
    have lt : i < n := by omega
    refine codeAny_builtin PyProof.Rows.F.entry_set_update_loop ?_
    rw [Around.under_plainId PyProof.Rows.F.plain_set_update_loop _]
    show wpAny _ A.in1 (pyNext (.ref I) >>= _) _ _ s
    refine wpAny_bind (W.item i s _ _ lt hst fun v s' hP hst' mv => ?_)
    obtain ⟨k, hk1, hk2, hk3⟩ := hv i v hP
    have nextK : ks.take (i + 1) = ks.take i ++ [k] := by
      rw [List.take_add_one, hk1]
      rfl
    have hS' : s'.heap.SetOf knd S (fun j => decide (j ∈ met (ks.take i))) (met (ks.take i)).length := by
      obtain ⟨o, es, ep, tb, ho, others⟩ := hS
      exact ⟨o, es, ep, tb, mv.heap S _ outW ho, others⟩
    have small : (met (ks.take i)).length + 1 < scanBound := by
      have q1 := met_le (ks.take i)
      rw [List.length_take] at q1
      omega
    show wpAny _ A.in1 (holding [v] (setAdd S v) >>= _) _ _ s'
    refine wpAny_bind (wpAny_holding ?_)
    unfold setAdd
    refine wpAny_holding (wpAny_bind (knd.pyHash (k := k) hk2 ?_))
    refine wpAny_setAddHashed_of (knd := knd) (s := { s' with toks := s'.toks + 1 }) hk2 hk3 hS' small fun h' hsb hS2 => ?_
    have hSi : h'.SetOf knd S (fun j => decide (j ∈ met (ks.take (i + 1)))) (met (ks.take (i + 1))).length := by
      refine SetOf_congr hS2 (fun j => ?_) ?_
      · rw [nextK, met_snoc]
        by_cases e1 : j ∈ met (ks.take i)
        · rw [decide_eq_true e1, decide_eq_true ((mem_add _ _ _).mpr (Or.inl e1))]
          rfl
        · by_cases e2 : j = k
          · rw [decide_eq_true e2, decide_eq_true ((mem_add _ _ _).mpr (Or.inr e2)), Bool.or_true]
          · rw [decide_eq_false e1, decide_eq_false e2, decide_eq_false (fun z => ((mem_add _ _ _).mp z).elim e1 e2)]
            rfl
      · rw [nextK, met_snoc]
        unfold addMet
        by_cases e1 : k ∈ met (ks.take i)
        · rw [if_pos e1, if_pos (decide_eq_true e1)]
        · rw [if_neg e1, if_neg (by rw [decide_eq_false e1]; exact Bool.false_ne_true), List.length_append, List.length_singleton]
    refine wpAny_pure ⟨plainId_quiet PyProof.Rows.F.plain_set_update_loop _, ih (i + 1) _ (by omega) lt (W.frame _ s' _ _ hst' (Nat.le_succ _) fun b hb o e => ?_) hSi fun s2 mv2 hS3 => ?_⟩
    · rw [hsb.2 b (fun z : b = S => out (by rw [← z]; exact hb))]
      exact e
    · refine fin s2 (Moved.trans W.gtrans ((mv.mono more).then_heap (Nat.le_succ _) fun b o hb e => ?_) mv2) hS3
      rw [hsb.2 b (fun z : b = S => hb (by rw [z]; exact List.mem_cons_self))]
      exact e
end
section
variable {κ : Type} [DecidableEq κ] [BEq κ] [LawfulBEq κ] {prog : Program} {w : World} {A : Around} {E : Value → Shared → Prop} {s : Shared}
abbrev set0 (led : Bool) : Obj := { cls := .type "set", dict := none, data := .set #[] 0 (.fresh 0 0 led) }
theorem toy_set (knd : KeyKind prog w κ) {l : Addr} {items : Array Value} {ks : List κ} {Q : Value → Shared → Prop} (hh : A.handled = none) (hl : s.heap.IsList l items) (hlen : ks.length = items.size) (room : items.size + 1 < scanBound)
    (hv : ∀ (i : Nat) v, items[i]? = some v → ∃ k, ks[i]? = some k ∧ knd.is k v = true ∧ v.scannable = true)
    (h : ∀ (h' : Heap) (tk : Nat), h'.SetOf knd s.heap.objs.size (fun j => decide (j ∈ met ks)) (met ks).length →
      (∀ b o, b < s.heap.objs.size → s.heap.get? b = some o → h'.get? b = some o) → Q (.ref s.heap.objs.size) { s with heap := h', toks := tk }) :
    wpAny (model prog w) A (call (.type "set") [.ref l]) Q E s := by
  obtain ⟨c, tl, hmro⟩ := PySem.F.called_set.mro
  have hmade := PySem.F.called_set.made
  have hsub := PySem.F.called_set.sub
  refine wpAny_call (codeAny_of_tree ?_)
  show wpAny _ _ (callAny (.type "set") _) _ _ _
  refine wpAny_pure ⟨Code.quiet_builtin _ (by decide +kernel), codeAny_builtin PySem.F.entry_type_call ?_⟩
  rw [Around.under_plain (weight_type_call_type "set" [.ref l] []) rfl]
  have g1 := PySem.F.called_set.notType
  have g2 := PySem.F.called_set.canCreate
  have g3 := PySem.F.typeCall_set_1 (.ref l)
  repeat (any_goals (first | assumption | wp_step))
  refine codeAny_mono (code_set_new_1 (.ref l) (E := E) (Q₁ := fun ob sA => ∃ led : Bool, ob = .ref s.heap.objs.size ∧ sA = { s with heap := s.heap.push { cls := .type "set", dict := none, data := .set #[] 0 (.fresh 0 0 led) } }) fun led => ⟨led, rfl, rfl⟩) fun r sA hr => ?_
  match r, hr with
  | .error e, hr => exact hr
  | .ok .next, hr => exact hr.elim
  | .ok .brk, hr => exact hr.elim
  | .ok .cont, hr => exact hr.elim
  | .ok (.ret ob), hr =>
    obtain ⟨led, rfl, rfl⟩ := hr
    have hS : (s.heap.push (set0 led)).get? s.heap.objs.size = some (set0 led) := Heap.get?_push_size _ rfl
    have hT : Shared.TypeIs { s with heap := s.heap.push (set0 led) } (.ref s.heap.objs.size) "set" := ⟨_, hS, rfl⟩
    have g4 := PySem.F.called_set.init.lookup
    have g5 := PySem.F.called_set.init.bind (.ref s.heap.objs.size)
    repeat (any_goals (first | assumption | wp_step))
    refine codeAny_mono (codeAny_call_builtin (R := wants (fun r s₂ => r = .none ∧ ∃ h' tk, s₂ = { s with heap := h', toks := tk } ∧ h'.SetOf knd s.heap.objs.size (fun j => decide (j ∈ met ks)) (met ks).length ∧
        (∀ b o, b < s.heap.objs.size → s.heap.get? b = some o → h'.get? b = some o)) E) PySem.F.called_set.init.plain PySem.F.entry_set_init (check_set_init_1 hT ?_)) fun r₂ s₂ hr₂ => ?_
    · obtain ⟨ol, hol, hcl, nl, hdl⟩ := hl
      obtain ⟨oc, odi, oda, osl⟩ := ol
      simp only at hcl hdl
      subst hcl hdl
      have hol' : (s.heap.push (set0 led)).get? l = some { cls := .type "list", dict := odi, data := .seq items nl, slots := osl } := Heap.get?_push_of_some _ hol
      have g6 := PySem.F.sub_list_set
      have g7 := PySem.F.sub_list_frozenset
      have g8 : (Value.type "list" == Value.type "dict") = false := by decide
      have hl1 : (s.heap.push (set0 led)).IsList l items := ⟨_, hol', rfl, nl, rfl⟩
      unfold Builtin.«set.__init__» noKeywords Builtin.Frozenset.updateFrom
      generalize hPI : pyIter = PI
      wp_walk
      subst hPI
      refine wpAny_pyIter_list hl1 ?_
      refine wpAny_bind (wpAny_runValue ?_)
      have lS : l < s.heap.objs.size := Heap.lt_size hol
      have hh3 : A.in1.in1.in1.handled = none := by simp [hh]
      have nI : l ≠ (s.heap.push (set0 led)).objs.size := by
        rw [Heap.size_push]
        exact Nat.ne_of_lt (Nat.lt_succ_of_lt lS)
      have nS : s.heap.objs.size ∉ [(s.heap.push (set0 led)).objs.size, l] := by
        rw [Heap.size_push]
        simp only [List.mem_cons, List.mem_singleton, List.not_mem_nil, or_false, not_or]
        exact ⟨Nat.ne_of_lt (Nat.lt_succ_self _), Nat.ne_of_gt lS⟩
      refine toy_loop knd ((Walks.list hh3 _ l nI items).toS) s.heap.objs.size nS ks hlen room hv (items.size - 0) 0 _ (by omega) (Nat.zero_le _) ⟨⟨_, Heap.get?_push_size _ rfl, rfl, rfl⟩, (hl1.push _)⟩ ?start0 ?done0
      case start0 =>
        have there : ((s.heap.push (set0 led)).push { cls := .type "list_iterator", data := .fields #[.ref l, .int 0 0] }).get? s.heap.objs.size = some (set0 led) := Heap.get?_push_of_some _ hS
        exact SetOf_congr ((setObjOf_fresh (knd := knd) led).setOf there (by unfold scanBound; omega)) (fun _ => rfl) rfl
      case done0 =>
        intro s' mv hS'
        obtain ⟨h', g', d', tk', os'⟩ := s'
        have eg : g' = s.gens := mv.gens
        have ed : d' = s.drawn := mv.drawn
        have eo : os' = s.os := mv.os
        subst eg ed eo
        refine wpAny_pure ?_
        show wpAny _ _ (ret Value.none) _ _ _
        refine wpAny_pure ⟨rfl, h', tk', rfl, hS', fun b o hb e => ?_⟩
        have n1 : b ≠ s.heap.objs.size := Nat.ne_of_lt hb
        have n2 : b ≠ (s.heap.push (set0 led)).objs.size := by
          rw [Heap.size_push]
          exact Nat.ne_of_lt (Nat.lt_succ_of_lt hb)
        exact mv.heap b o (by simp only [List.mem_cons, List.mem_singleton, List.not_mem_nil, or_false, not_or]; exact ⟨n1, n2⟩) (Heap.get?_push_of_some _ (Heap.get?_push_of_some _ e))
    · match r₂, hr₂ with
      | .error e, hr₂ => exact hr₂
      | .ok .next, hr₂ => exact hr₂.elim
      | .ok .brk, hr₂ => exact hr₂.elim
      | .ok .cont, hr₂ => exact hr₂.elim
      | .ok (.ret r), hr₂ =>
        obtain ⟨rfl, h', tk, rfl, hS', hk'⟩ := hr₂
        repeat (any_goals (first | assumption | wp_step))
        exact h _ _ hS' hk'
end
end PySem
set_option Elab.async false
set_option linter.all false
set_option maxRecDepth 100000
set_option maxHeartbeats 3200000
namespace L2
open PySem PySem.Spec PyProof.Rows Toy
section
variable {X : Cx}
theorem strs_vals : ∀ {xs : List Str} {us : List Value}, Vals (xs.map V.str) us → xs.length = us.length ∧ ∀ (i : Nat) v, us[i]? = some v → ∃ x t, xs[i]? = some x ∧ v = Value.str x t
  | [], _, .nil => ⟨rfl, fun i v e => by simp at e⟩
  | x :: xs, _, .cons r t => by
    obtain ⟨k, rfl⟩ := r
    obtain ⟨h1, h2⟩ := strs_vals t
    refine ⟨by rw [List.length_cons, List.length_cons, h1], fun i v e => ?_⟩
    cases i with
    | zero =>
      cases e
      exact ⟨x, k, rfl, rfl⟩
    | succ i => exact h2 i v e
/-- len(set(xs)), xs a list of texts -/
def tLenMet (K : PySem.W.Frag) (ta : TE) : TE := fun σ H Q => ta σ H fun x H1 => ∃ (l : Addr) (xs : List Str), x = .ref l ∧ SqL K H1 l (xs.map V.str) ∧ xs.length ≤ 100 ∧ Q (.int (met xs).length) H1
theorem pe_lenMet {a : Expr} {ta : TE} {p p2 q pos : Pos} (hc : X.calm = true) (hg : Gl X "len") (hm : X.mg "len" = none) (hg2 : Gl X "set") (hm2 : X.mg "set" = none) (ha : PE X a ta)
    (na : starEach [a] X.env = (false, eval a X.env) :: starEach [] X.env := by rfl) : PE X (.Call (.Name "len" p) [.Call (.Name "set" p2) [a] [] q] [] pos) (tLenMet X.K ta) := by
  refine ⟨fun pins s σ H Q I h => ?_⟩
  refine Call_ (ld_blt I hg hm PySem.boot_len ?_)
  refine PyProof.Rows.callWith_builtin1 (PyProof.Rows.args_cons ?_ rfl) rfl rfl
  refine Call_ (ld_blt I hg2 hm2 PyProof.Rows.boot_set ?_)
  refine PyProof.Rows.callWith_type1 (PyProof.Rows.args_cons (thn (ha.run pins s σ H _ I h) fun v s1 ⟨x, H1, I1, r1, q1⟩ => PyProof.Rows.args_nil ?_) na) na rfl
  obtain ⟨l, xs, rfl, hq, h100, q1⟩ := q1
  cases r1
  obtain ⟨its, r, pl, hz⟩ := I1.list hq
  obtain ⟨len1, vals1⟩ := strs_vals r
  have size1 : its.toArray.size = xs.length := by rw [List.size_toArray, len1]
  refine PySem.toy_set (PySem.strKind X.prog X.w) (I1.ok.hd hc) pl.isList size1.symm (by rw [size1]; unfold scanBound; omega) (fun i v e => ?_) fun h' tk hS hk => ?_
  · obtain ⟨x, t, e1, rfl⟩ := vals1 i v (by rw [← Array.getElem?_toList] at e; exact e)
    exact ⟨x, e1, PySem.strKind_is _ _ _ _, rfl⟩
  · refine PyProof.Rows.args_nil ?_
    have le := met_le xs
    obtain ⟨o, es, ep, t, ho, hex, hd, _, _, _, hf, hn⟩ := hS
    have I2 : Inv X pins σ H1 { s1 with heap := h', toks := tk } := I1.kept fun b o e => hk b o (Heap.lt_size e) e
    exact call_len_set ho hex hd hf (by rw [hn]; omega) ⟨.int (met xs).length, H1, I2.tok _, ⟨_, by rw [hn]⟩, q1⟩
end
end L2
namespace PyProof.Rows
open PySem
section
variable {prog : Program} {w : World} {A : Around} {E : Value → Shared → Prop} {s : Shared}
/-- what an iterable tuple is collected to -/
theorem toy_collect {l : Addr} {vs : List Value} {Q : List Value → Shared → Prop} (hl : s.heap.IsTuple l vs.toArray)
    (h : Q vs { s with heap := (s.heap.push (seqObj "list" #[] 0)).update s.heap.objs.size (Obj.mapSeq (· ++ vs.toArray)) }) (hsz : vs.length ≤ sizeLine) : wpAny (model prog w) A (collect (.ref l)) Q E s := by
  obtain ⟨o, ho, hc, n, hd⟩ := id hl
  unfold collect
  refine wpAny_bind (wpAny_runValue (codeAny_builtin entry_proto_collect' ?_))
  show wpAny _ _ (do again (.builtin "list.__iadd__" ⟨[← newList [], .ref l], []⟩)) _ _ s
  refine wpAny_bind (wpAny_newList (wpAny_pure ⟨Code.quiet_builtin _ (by decide +kernel), codeAny_builtin entry_list_iadd' ?_⟩))
  show wpAny _ _ (Builtin.List.listExtendWith (.ref s.heap.objs.size) (.ref l) (.ref s.heap.objs.size)) _ _ { s with heap := s.heap.push (seqObj "list" #[] 0) }
  unfold Builtin.List.listExtendWith
  have ho' : (s.heap.push (seqObj "list" #[] 0)).get? l = some o := Heap.get?_push_of_some _ ho
  refine wpAny_bind (wpAny_typeOf (T := "tuple") ⟨o, ho', hc⟩ ?_)
  have isT : (Value.type "tuple" == Value.type "tuple") = true := by rfl
  rw [if_pos (by rw [isT]; simp)]
  refine wpAny_bind (listItems_at ho' hd ?_)
  refine wpAny_bind (listItems_at (xs := #[]) (n := 0) (Heap.get?_push_size _ rfl) rfl ?_)
  rw [if_neg (by simp)]
  refine wpAny_bind (listUpdate_at (xs := #[]) (n := 0) (Heap.get?_push_size _ rfl) rfl ?_ (Nat.zero_le _) (by show (#[] ++ vs.toArray).size ≤ sizeLine + 1; simp only [Array.size_append, List.size_toArray, List.length_nil]; omega))
  refine wpAny_pure ?_
  show wpAny (model prog w) A (do
      let o ← load s.heap.objs.size
      match o.data with
      | .seq xs _ => pure xs.toList
      | _ => unsupported "internal:collect") Q E { s with heap := (s.heap.push (seqObj "list" #[] 0)).update s.heap.objs.size (Obj.mapSeq (· ++ vs.toArray)) }
  refine wpAny_bind (wpAny_load (get?_update_seq (Heap.get?_push_size _ rfl) _) ?_)
  show wpAny _ _ (pure ((#[] : Array Value) ++ vs.toArray).toList) Q E _
  have same : ((#[] : Array Value) ++ vs.toArray).toList = vs := by simp
  rw [same]
  exact wpAny_pure h
theorem toy_sortedT {κ : PyProof.Rows.KeyKind} (hO : κ.OneLt) {l : Addr} {vs : List Value} {Q : Value → Shared → Prop} (hl : s.heap.IsTuple l vs.toArray) (h0 : KeysOf κ (pairsOf vs))
    (hkk : ∀ v₁ v₂ rest, vs = v₁ :: v₂ :: rest → keyKind' (v₁ :: v₂ :: rest).toArray = pure oneType') (h64 : vs.length < 64)
    (h : ∀ st' : SortSt, (arrOf st').Perm (pairsOf vs) → SortedToK κ (arrOf st') (pairsOf vs).size → Q (.ref (s.heap.objs.size + 1)) { s with heap := sortedAll s.heap vs ((arrOf st').map (·.2)) }) :
    wpAny (model prog w) A (call (.builtin "sorted") [.ref l]) Q E s := by
  refine Calls.call_function_entry kind_sorted plain_sorted entry_sorted (args_sorted1 _) ?_
  unfold Builtin.«sorted»
  refine wpAny_bind (m := checkCount "sorted" 1 1 _) (wpAny_pure (wpAny_bind (toy_collect hl (wpAny_bind (wpAny_newList ?_)) (by rw [sizeLine_eq]; omega))))
  have sz : ((s.heap.push (seqObj "list" #[] 0)).update s.heap.objs.size (Obj.mapSeq (· ++ vs.toArray))).objs.size = s.heap.objs.size + 1 := by
    rw [Heap.size_update, size_push']
  have hoL : (((s.heap.push (seqObj "list" #[] 0)).update s.heap.objs.size (Obj.mapSeq (· ++ vs.toArray))).push (seqObj "list" vs.toArray 0)).get? (s.heap.objs.size + 1) = some (seqObj "list" vs.toArray 0) := by
    rw [← sz]
    exact Heap.get?_push_size _ rfl
  show wpAny _ _ _ _ _ { s with heap := ((s.heap.push (seqObj "list" #[] 0)).update s.heap.objs.size (Obj.mapSeq (· ++ vs.toArray))).push (seqObj "list" vs.toArray 0) }
  rw [sz]
  exact wpAny_bind (wpAny_holding (wpAny_call_entry slot_list_sort ⟨_, hoL, rfl⟩ entry_list_sort (list_sort_treeK hO hoL h0 hkk h64 fun st' a1 a2 => ⟨_, rfl, wpAny_pure ⟨_, rfl, h st' a1 a2⟩⟩) (args_list_sort _)))
end
end PyProof.Rows
namespace L2
open PySem PySem.Spec PyProof.Rows Toy
section
variable {X : Cx}
/-- sorted(t), t a tuple of texts -/
def rSortTS (K : PySem.W.Frag) : List V → Hp → VK → Prop := fun vs H Q => ∃ (a : Addr) (xs : List Str), vs = [V.ref a] ∧ SqT K H a (xs.map V.str) ∧ xs.length < 64 ∧
  ∀ (ys : List Str) (p : Addr), ys.Perm xs → sortedS ys = true → H p = none → Q (.ref p) (upd H p (.lst (ys.map V.str)))
theorem cr_sortTS : CallR X (.builtin "sorted") (rSortTS X.K) := by
  intro pins s σ H xs us Q I r h
  obtain ⟨a, xs, rfl, hs, h64, q⟩ := h
  obtain ⟨its, rv, hl, _⟩ := I.tuple hs
  rw [Vals.ref1 r]
  have len1 := rv.length
  rw [List.length_map] at len1
  have hS := rv.strs
  refine toy_sortedT strKind_oneLt hl hS.keysOf (fun v₁ v₂ rest e => keyKind_strs (by rw [← e]; exact hS)) (by rw [← len1]; exact h64) fun st' hp hsd => ?_
  obtain ⟨ys, h1, h2, h3⟩ := sorted_out_str hS hp hsd
  obtain ⟨ep, at_⟩ := PyProof.Rows.sortedAll_at s.heap its ((arrOf st').map (·.2))
  have small : (ys.map V.str).length ≤ sizeLine := by
    rw [List.length_map, h2.length_eq]
    exact small64 h64
  exact ⟨.ref _, upd H (s.heap.objs.size + 1) (.lst (ys.map V.str)), I.laid (t' := s.toks) (fun _ _ => PyProof.Rows.sortedAll_old) (Nat.le_succ _) ⟨small, _, ep, vals_of_strs h1, at_⟩, rfl, q ys _ h2 h3 (I.hok.fresh (Nat.le_succ _))⟩
end
end L2
set_option Elab.async false
set_option linter.all false
set_option maxRecDepth 100000
set_option maxHeartbeats 3200000
namespace PySem.W
open PySem PySem.Spec PySem.Calls PyProof.Rows
section
variable {prog : Program} {w : World} {A : Around} {E : Value → Shared → Prop} {s : Shared} {K : Frag} {x C f L : Addr} {h₀ : Heap} {m : Str → Option Value} {ox : Obj} {od : Option Obj} {b tb : Value}
theorem toy_in1 (A : Around) : A.in1.units ≤ A.units + 1 := by
  first | exact Nat.le_refl _ | exact Nat.le_succ _ | simp [Around.in1]
/-- x != b by x's own __eq__ -/
theorem toy_ne {Q : Value → Shared → Prop} (hu : A.units + 1 < cLine) (X : K.In s.heap) (I : InstAt s.heap x ox C od) (hb : Looks (model prog w) s.heap (typeOf b) tb) (hn : notFirst K C tb = true)
    (hs : findIn K (.ref C) "__eq__" = some (some (.ref f))) (hf : isFn K (.ref f) = true) (hne : findIn K (.ref C) "__ne__" = some (some (.builtin "object.__ne__"))) (hm : mroIn K C (.type "object") = some true)
    (h : wpAny (model prog w) A.in1 (call (.ref f) [.ref x, b]) (fun v s' => ∃ r, v = .bool r ∧ Q (.bool (!r)) s') E s) : wpAny (model prog w) A (richCompare .NotEq (.ref x) b) Q E s := by
  have sub : Looks (model prog w) s.heap (isInstance (.ref x) (.type "object")) true := I.type.andThen (looks_mroIn X hm)
  have body : wpAny (model prog w) A.in1 (Builtin.«object.__ne__» ⟨[.ref x, b], []⟩) (GQ.FinOf prog w A (wants (fun v s' => v ≠ .notImplemented ∧ Q v s') E)) (fun e s' => wants (fun v s' => v ≠ .notImplemented ∧ Q v s') E (.error e) s') s := by
    unfold Builtin.«object.__ne__»
    refine wpAny_bind (wpAny_of_eq (a := ((Value.ref x : Value), [b])) (by first | rfl | (simp only [slotArgs]; rfl)) ?_)
    refine wpAny_bind (wpAny_cRoomFor (Nat.lt_of_le_of_lt (toy_in1 A) hu) ?_)
    refine wpAny_bind (ifBound_K X I hs hf (wpAny_mono h (fun v s' hv => ?_) fun _ _ e => e))
    obtain ⟨r, rfl, q⟩ := hv
    show wpAny _ _ (do let t ← truthy (.bool r); ret (.bool (!t))) _ _ _
    exact wpAny_bind (wpAny_truthy_bool (wpAny_pure ⟨(fun z => nomatch z), q⟩))
  have one : wpAny (model prog w) A (tryCompare (.ref x) "__ne__" b) (fun r s' => ∃ v, r = some v ∧ Q v s') E s := by
    unfold tryCompare callSpecialIfBound? bindSpecialIfBound?
    have called : wpAny (model prog w) A (call (.builtin "object.__ne__") [.ref x, b]) (fun v s' => v ≠ .notImplemented ∧ Q v s') E s :=
      wpAny_call (codeAny_call_builtin PySem.F.cmp_object.ne.plain PySem.F.cmpEntry_ne (check_slot PySem.F.cmpKind_ne PySem.F.cmpSplit_ne sub (PySem.F.cmpArgs_ne (.ref x) b) body))
    have fin : ∀ {R : Option Value → Shared → Prop}, (∀ v s', v ≠ .notImplemented → Q v s' → R (some v) s') → wpAny (model prog w) A (call (.builtin "object.__ne__") ([.ref x] ++ [b]) >>= fun v => pure (some v)) R E s :=
      fun hR => wpAny_bind (wpAny_mono called (fun v s' hv => wpAny_pure (hR v s' hv.1 hv.2)) fun _ _ e => e)
    have back : ∀ v s', v ≠ Value.notImplemented → Q v s' → wpAny (model prog w) A (match (some v : Option Value) with | some .notImplemented => pure none | none => pure none | some v => pure (some v)) (fun r s' => ∃ v, r = some v ∧ Q v s') E s' := fun v s' n q => by
      cases v <;> first | exact absurd rfl n | exact wpAny_pure ⟨_, rfl, q⟩
    refine wpAny_bind (wpAny_holding (wpAny_bind (wpAny_bind (wpAny_bind (I.type.here ((looks_findIn X hne).here ?_))))))
    refine wpAny_bind (wpAny_askSetting (wpAny_ite ?_))
    have bd : bindSpecial (.builtin "object.__ne__") (.ref x) = pure (.builtin "object.__ne__", [.ref x]) := PySem.F.cmp_object.ne.bind (.ref x)
    rw [bd]
    split
    · exact wpAny_bind (wpAny_pure (wpAny_pure (by exact fin back)))
    · exact wpAny_tryCatch (wpAny_bind (wpAny_pure (wpAny_pure (by exact fin back))))
  unfold richCompare
  simp only [oneThing_ref, cmpInfo_NotEq]
  refine wpAny_holding (wpAny_bind (wpAny_cRoomFor (by omega) (wpAny_bind (I.type.here (wpAny_bind (hb.here ?_))))))
  split
  · rename_i q
    have e : subIn K tb (.ref C) = some false := by
      rcases Bool.or_eq_true_iff.mp hn with e | e
      · rw [beq_iff_eq.mp e] at q
        simp at q
      · exact beq_iff_eq.mp e
    refine wpAny_bind ((looks_subIn X e).here ?_)
    simp only [Bool.false_eq_true, if_false]
    refine wpAny_bind (wpAny_mono one (fun r s' z => ?_) fun _ _ e => e)
    obtain ⟨v, rfl, hq⟩ := z
    exact wpAny_pure hq
  · refine wpAny_bind (wpAny_pure ?_)
    simp only [Bool.false_eq_true, if_false]
    refine wpAny_bind (wpAny_mono one (fun r s' z => ?_) fun _ _ e => e)
    obtain ⟨v, rfl, hq⟩ := z
    exact wpAny_pure hq
end
end PySem.W
namespace L2
open PySem PySem.Spec PyProof.Rows Toy
section
variable {X : Cx}
/-- a == y, a an instance of the class at C with an own __eq__ -/
def rEqO (K : PySem.W.Frag) (C : Addr) (sp : Sp) (E : XK) (neg : Bool) : R2 := fun x y H Q => ∃ (a dx : Addr) (fs : List (Str × V)) (t : Value), x = .ref a ∧ H a = some (.ins C dx fs) ∧ TyX K H y t ∧ PySem.W.notFirst K C t = true ∧
  sp [x, y] H (fun v H' => ∃ b, v = .bl b ∧ Q (.bl (if neg then !b else b)) H') E
/-- what the class must say of == and != -/
structure EqC (K : PySem.W.Frag) (C f : Addr) : Prop where
  eq : PySem.W.findIn K (.ref C) "__eq__" = some (some (.ref f))
  fn : PySem.W.isFn K (.ref f) = true
  ne : PySem.W.findIn K (.ref C) "__ne__" = some (some (.builtin "object.__ne__"))
  ob : PySem.W.mroIn K C (.type "object") = some true
variable {CXq : CXT} {C f : Addr} {k : Nat} {fd : FuncData} {ps : List Str} {sp : Sp} {E : XK}
theorem op_eqO (T : EqC X.K C f) (F : FnOk X.prog X.w X.K X.mg X.base CXq k f fd ps sp) (hr : Room k X.A) (hb : Binds X.K fd ps []) (hx : Passes CXq X E) : OpR X (compareOp .Eq) (rEqO X.K C sp E false) := by
  intro pins s σ H x y v u Q I rx ry h
  obtain ⟨a, dx, fs, t, rfl, ha, ty, hn, hsp⟩ := h
  obtain rfl : v = Value.ref a := rx
  obtain ⟨mA, J, _⟩ := ins_get I.hok ha
  obtain ⟨od, J, _⟩ := J.look
  obtain ⟨Pq, Z, pq, _⟩ := kit_of I ry ty
  obtain ⟨m, fr⟩ := I.fr
  show wpAny (model X.prog X.w) X.A (richCompare .Eq (.ref a) u) (EP X pins σ Q) X.xe s
  refine PySem.W.cmp_K (op := .Eq) (tb := t) hr.units0 fr I.ok.mod.kin J (Z.ty _ _ I.kIn pq) hn T.eq T.fn ?_
  have hl := F.len _ _ _ _ hsp
  have r2 : Vals [V.ref a, y] [Value.ref a, u] := .cons rfl (.cons ry .nil)
  have bnd := hb s [.ref a, u] I.kIn (by rw [List.append_nil, ← hl]; rfl)
  rw [List.append_nil] at bnd
  refine wpAny_call (codeAny_mono (F.run X.A X.stack s H ⟨[.ref a, u], []⟩ _ _ _ E hr I.env0 bnd r2 hsp) fun r s' hq => ?_)
  match r, hq with
  | .error e, hq => exact hx pins σ H s e s' I hq
  | .ok .next, hq => exact hq.elim
  | .ok .brk, hq => exact hq.elim
  | .ok .cont, hq => exact hq.elim
  | .ok (.ret z), hq =>
    obtain ⟨v2, H', J', rz, b, rfl, q⟩ := I.after hq
    obtain rfl : z = Value.bool b := rz
    exact ⟨.bl b, H', J', rfl, q⟩
theorem op_neO (T : EqC X.K C f) (F : FnOk X.prog X.w X.K X.mg X.base CXq k f fd ps sp) (hr : Room (k + 1) X.A) (hb : Binds X.K fd ps []) (hx : ∀ pins σ H s e s', L2.Inv X pins σ H s → CXq X.stack H s E e s' → X.xe e s') : OpR X (compareOp .NotEq) (rEqO X.K C sp E true) := by
  intro pins s σ H x y v u Q I rx ry h
  obtain ⟨a, dx, fs, t, rfl, ha, ty, hn, hsp⟩ := h
  obtain rfl : v = Value.ref a := rx
  obtain ⟨mA, J, _⟩ := ins_get I.hok ha
  obtain ⟨od, J, _⟩ := J.look
  obtain ⟨Pq, Z, pq, _⟩ := kit_of I ry ty
  show wpAny (model X.prog X.w) X.A (richCompare .NotEq (.ref a) u) (EP X pins σ Q) X.xe s
  refine PySem.W.toy_ne (tb := t) (by have := hr.units; omega) I.kIn J (Z.ty _ _ I.kIn pq) hn T.eq T.fn T.ne T.ob ?_
  have hl := F.len _ _ _ _ hsp
  have r2 : Vals [V.ref a, y] [Value.ref a, u] := .cons rfl (.cons ry .nil)
  have bnd := hb s [.ref a, u] I.kIn (by rw [List.append_nil, ← hl]; rfl)
  rw [List.append_nil] at bnd
  refine wpAny_call (codeAny_mono (F.run X.A.in1 X.stack s H ⟨[.ref a, u], []⟩ _ _ _ E hr.in1 I.env0.in1 bnd r2 hsp) fun r s' hq => ?_)
  match r, hq with
  | .error e, hq => exact hx pins σ H s e s' I hq
  | .ok .next, hq => exact hq.elim
  | .ok .brk, hq => exact hq.elim
  | .ok .cont, hq => exact hq.elim
  | .ok (.ret z), hq =>
    obtain ⟨v2, H', J', rz, b, rfl, q⟩ := I.after hq
    obtain rfl : z = Value.bool b := rz
    exact ⟨b, rfl, .bl (!b), H', J', rfl, q⟩
end
end L2
set_option Elab.async false
set_option linter.all false
set_option maxRecDepth 100000
set_option maxHeartbeats 3200000
namespace L2
open PySem PySem.Spec PyProof.Rows Toy
/-- what the first clause 'except x as n' wishes, further clauses behind it: it is the one that catches -/
def wFirst (K : PySem.W.Frag) (c : Value) (i : Nat) (ts : Addr → Value → Option Addr → TS) (D : Ends) : WX := fun cls d σ H =>
  PySem.W.exmOne K cls c = some true ∧ ∀ a, H a = none → ts a cls d ⟨fun σ1 H1 => D.nx (σ1.set i none) H1, D.rt, fun σ1 H1 => D.bk (σ1.set i none) H1, fun σ1 H1 => D.ct (σ1.set i none) H1⟩ (σ.set i (some (.ref a))) H
section
variable {X : Cx} {x n : Str} {c : Value} {i : Nat} {body suite : List Stmt} {b₀ : Stmt} {np pos pos' : Pos} {tb : WX → TS} {ts : Addr → Value → Option Addr → TS} {rest : List ExceptHandler}
theorem ps_try_first (hs : X.stack = X.env :: X.outer) (hf : X.env.frame = some X.env.locals) (hN : X.N.Nodup) (hi : X.N[i]? = some n) (hln : X.env.kindOf n = some .local) (hc : Names X x c)
    (hb : ∀ (W : WX) (pn : List (Addr × Obj)) (xe : Value → Shared → Prop), Takes (X.tr pn xe) W → PassesOwn (model X.prog X.w) X.A X.env xe → PSs (X.tr pn xe) body (tb W))
    (hsu : ∀ (a : Addr) (oe : Obj) (cls : Value) (d : Option Addr) (pn : List (Addr × Obj)), Zc cls d oe → (∃ vs, oe.data = .fields vs) → PSs (X.suite a ((a, oe) :: pn)) (b₀ :: suite) (ts a cls d)) :
    PS X (.Try body (.ExceptHandler (some (.Name x np)) (some n) (b₀ :: suite) pos' :: rest) [] [] pos) (fun D σ H => tb (wFirst X.K c i ts D) D σ H) := by
  refine ⟨fun pins s σ H D I h => ?_⟩
  have okX := I.ok
  have frames : X.A.frames = some (X.env :: X.outer) := by rw [okX.frames, hs]
  refine wpAny_Try_except ?_
  have caught : ∀ (u : Value) (s' : Shared), XE (X.tr (X.pn ++ pins) fun e s₁ => wpAny (model X.prog X.w) X.A (noteFrame e X.env) (fun _ s₂ => wpAny (model X.prog X.w) X.A (setFlight e none) (fun _ s₃ =>
      wpAny (model X.prog X.w) X.A (handleBy e X.env (.ExceptHandler (some (.Name x np)) (some n) (b₀ :: suite) pos' :: rest)) (SP X pins D) X.xe s₃) X.xe s₂) X.xe s₁) (wFirst X.K c i ts D) u s' →
      wpAny (model X.prog X.w) X.A (noteFrame u X.env) (fun _ s₂ => wpAny (model X.prog X.w) X.A (setFlight u none) (fun _ s₃ =>
      wpAny (model X.prog X.w) X.A (handleBy u X.env (.ExceptHandler (some (.Name x np)) (some n) (b₀ :: suite) pos' :: rest)) (SP X pins D) X.xe s₃) X.xe s₂) X.xe s' := by
    rintro u s' ⟨a, B, sI, pinsI, σI, HI, cls, d, rfl, Jtry, nb, up, sky, na, os, ag, match_, run⟩
    have J := Jtry.ofTry okX
    have skyX : Sky B (X.env :: X.outer) a (Zc cls d) X.env.locals s'.heap := by
      rw [← hs]
      exact sky
    refine Sky.land Zc.steady frames hf skyX fun h3 fly3 up3 => ?_
    have J3 : Inv X pins σI HI { s' with heap := h3 } := J.landed nb fly3.1 (up.trans up3) os ag
    obtain ⟨o3, v3, at3, z3, f3⟩ := fly3.there
    have away : a ∉ frs (X.env :: X.outer) := fun hm => by
      obtain ⟨_, o', e', hnf⟩ := fly3.2.2.1.mem hm
      rw [at3] at e'
      cases e'
      exact hnf _ f3
    have awayL : a ≠ X.env.locals := fun z => away (List.mem_filterMap.mpr ⟨X.env, List.mem_cons_self, by rw [hf, z]⟩)
    have awayF : a ∉ X.fs := fun hm => by
      obtain ⟨e, he, q⟩ := List.mem_filterMap.mp hm
      exact away (List.mem_filterMap.mpr ⟨e, List.mem_cons_of_mem _ he, q⟩)
    have S3 := J3.suite at3 f3 na awayL awayF
    refine wpAny_handleBy_cons (codeAny_handlers_test ?_) (by intro q; cases q)
    have looksT : PySem.W.Looks (model X.prog X.w) h3 (typeOf (.ref a)) cls := fun A Q E s k q => wpAny_typeOf_ref (k _ _ at3) (by rw [z3.1]; exact q)
    have looksM := PySem.W.exm_one (M := model X.prog X.w) (J3.kIn) looksT match_
    have named : ∀ {Q : Value → Shared → Prop} {E : Value → Shared → Prop}, Q c { s' with heap := h3 } → wpAny (model X.prog X.w) (X.A.mark (some (.ref a))) (eval (.Name x np) X.env) Q E { s' with heap := h3 } := fun {Q E} q => by
      rcases hc with ⟨hg, dbg, hm | ⟨hm, hv, hnn⟩⟩
      · exact ld_glob (X := X.suite a ((a, o3) :: (X.pn ++ pins))) S3 hg hm q dbg
      · exact ld_blt (X := X.suite a ((a, o3) :: (X.pn ++ pins))) S3 hg hm hv q hnn dbg
    refine named (looksM.here (codeAny_handlers_suite_as ?_))
    refine HandSPX.lands_againZ fly3 fun h4 fly4 up4 => ?_
    have J4 : Inv X pins σI HI { s' with heap := h4 } := J.landed nb fly4.1 ((up.trans up3).trans up4) os ag
    obtain ⟨o4, v4, at4, z4, f4⟩ := fly4.there
    refine store_ok (X := X.suite a ((a, o4) :: (X.pn ++ pins))) (v := .ref a) (J4.suite at4 f4 na awayL awayF) hN hi (.inl hln) rfl (fun s5 S5 => ?_) (.inr hln)
    refine wpAny_mono ((hsu a o4 cls d (X.pn ++ pins) z4 ⟨_, f4⟩).run [] s5 _ HI _ S5 (run a na)) (fun f s6 hsp => ?_) (fun _ _ z => False.elim z)
    have leave : ∀ {σ6 : L2.St} {H6 : Hp} {Q : Shared → Prop}, Inv (X.suite a ((a, o4) :: (X.pn ++ pins))) [] σ6 H6 s6 → (∀ s7, Inv X pins (σ6.set i none) H6 s7 → Q s7) →
        wpAny (model X.prog X.w) X.A (do bindName X.env n .none; unbindBehindTheSuite X.env n pos') (fun _ s7 => Q s7) X.xe s6 := fun {σ6 H6 Q} S6 hq => gone_ok (S6.unsuite okX) hN hi hln hq
    match f, hsp with
    | .next, ⟨σ6, H6, S6, q6⟩ => exact leave S6 fun s7 J7 => ⟨_, _, J7, q6⟩
    | .brk, ⟨σ6, H6, S6, q6⟩ => exact leave S6 fun s7 J7 => ⟨_, _, J7, q6⟩
    | .cont, ⟨σ6, H6, S6, q6⟩ => exact leave S6 fun s7 J7 => ⟨_, _, J7, q6⟩
    | .ret u, ⟨v6, σ6, H6, S6, r6, q6⟩ => exact leave S6 fun s7 J7 => ⟨_, _, _, J7, r6, q6⟩
  refine wpAny_mono ((hb (wFirst X.K c i ts D) (X.pn ++ pins) _ caught PassesOwn.looking).run [] s σ H D (I.toTry _) h) (fun f s1 hsp => ?_) (fun e s1 he => he)
  match f, hsp with
  | .next, ⟨σ1, H1, J1, q⟩ => exact wpAny_execs_nil ⟨σ1, H1, J1.ofTry okX, q⟩
  | .brk, ⟨σ1, H1, J1, q⟩ => exact ⟨σ1, H1, J1.ofTry okX, q⟩
  | .cont, ⟨σ1, H1, J1, q⟩ => exact ⟨σ1, H1, J1.ofTry okX, q⟩
  | .ret u, ⟨v, σ1, H1, J1, r, q⟩ => exact ⟨v, σ1, H1, J1.ofTry okX, r, q⟩
/-- isinstance(e, cs) of the exception that the suite holds, its class at C, its dict at d; cs one class or a tuple of classes -/
def rIsH (K : PySem.W.Frag) (C a d : Addr) : List V → Hp → VK → Prop := fun xs H Q => ∃ (c : V) (b : Bool), xs = [.ref a, c] ∧ (∃ fs, H d = some (.xd fs)) ∧
  ((∃ cv, ClsV c cv ∧ PySem.W.kitOne K (.ref C) cv = some b) ∨ (∃ (tp : Addr) (cs : List V) (us : List Value), c = .ref tp ∧ H tp = some (.tup cs) ∧ Paired ClsV cs us ∧ PySem.W.kitAny K (.ref C) us = some b)) ∧ Q (.bl b) H
theorem call_isH {C a d : Addr} {oe : Obj} {cls : Value} {dd : Option Addr} {pn : List (Addr × Obj)} (T : ExcC X.K C) (hz : Zc cls dd oe) (hf : ∃ vs, oe.data = .fields vs) (ec : cls = .ref C) (ed : dd = some d) :
    CallR (X.suite a ((a, oe) :: pn)) (.builtin "isinstance") (rIsH X.K C a d) := by
  subst ec ed
  intro pins s σ H xs us Q I r h
  obtain ⟨c, b, rfl, ⟨fs, hd⟩, kc, q⟩ := h
  obtain ⟨u1, u2, rfl, r1, r2⟩ := vals2 r
  obtain rfl : u1 = Value.ref a := r1
  obtain ⟨hget, _⟩ := I.pin (a, oe) (List.mem_append.mpr (.inl List.mem_cons_self))
  obtain ⟨vs, hv⟩ := hf
  have hx : ObjOk X.prog X.w H s.heap d (.xd fs) := I.hok d _ hd
  obtain ⟨mA, hns, _⟩ := hx
  obtain ⟨od, ho, _⟩ := lookIn_ns hns
  have J : PySem.W.InstAt s.heap a oe C (some od) := ⟨hget, hz.1, by unfold PySem.W.notCls; rw [hv] <;> rfl, by rw [hz.2]; exact ho⟩
  obtain ⟨cd, hcd, _⟩ := PySem.W.any_some T.hd
  have Z := PySem.W.kitx_exc (K := X.K) (x := a) (C := C) (ox := oe) (od := some od) (by rw [hcd]; rfl) T.hg T.hk T.hs T.ha T.hn T.ht T.hm
  rcases kc with ⟨cv, k1, e⟩ | ⟨tp, cs, ws, rfl, ht, k1, e⟩
  · have e2 := k1.eq r2
    subst e2
    exact PySem.W.kia_one Z I.kIn J e (by intro z; cases z) fun tk => ⟨.bl b, H, I.tok tk, rfl, q⟩
  · obtain rfl : u2 = Value.ref tp := r2
    obtain ⟨_, its, rv, o, h1, h2, n, h3⟩ := (show ObjOk X.prog X.w H s.heap tp (.tup cs) from I.hok tp _ ht)
    have e3 := ClsV.all k1 rv
    subst e3
    obtain ⟨oc, od2, dt, sl⟩ := o
    simp only at h2 h3
    subst h2 h3
    exact PySem.W.kia_tup Z I.kIn J h1 e (by intro z; cases z) fun tk => ⟨.bl b, H, I.tok tk, rfl, q⟩
end
end L2
set_option Elab.async false
set_option linter.all false
set_option maxRecDepth 100000
namespace Toy
open PySem L2
def top (i : Nat) : Stmt := PySem.Challenge.pw_endsum_k22_pairings_told.main.body.getD i (.Pass ⟨0, 0, 0, 0⟩)
abbrev sName : Stmt := top 4
abbrev sPair : Stmt := top 5
abbrev sList : Stmt := top 6
abbrev sUnlike : Stmt := top 7
abbrev sNoSt : Stmt := inClass (top 10) 0
abbrev sNoDr : Stmt := inClass (top 11) 0
abbrev sPlaces : Stmt := top 16
abbrev sCorners : Stmt := top 17
abbrev sLegs : Stmt := top 18
abbrev sIsLeg : Stmt := top 19
abbrev sAllEnds : Stmt := top 20
abbrev sInit : Stmt := inClass (top 33) 0
abbrev sEq : Stmt := inClass (top 33) 1
abbrev sSorts : Stmt := top 34
abbrev sKinds : Stmt := top 35
abbrev sKind : Stmt := top 36
abbrev sEnds : Stmt := top 37
abbrev sLaw : Stmt := top 49
abbrev sState : Stmt := top 40
abbrev sPick : Stmt := top 41
abbrev sWords : Stmt := top 42
abbrev sRows : Stmt := top 43
abbrev sCount : Stmt := top 23
abbrev sAlone : Stmt := top 24
abbrev sAcross : Stmt := top 25
abbrev sThere : Stmt := top 44
abbrev sWanted : Stmt := top 45
abbrev sGrounds : Stmt := top 46
abbrev sPartners : Stmt := top 28
abbrev sRight : Stmt := top 48
abbrev sPairings : Stmt := top 26
abbrev sPairedP : Stmt := top 27
abbrev sAllPairings : Stmt := top 47
end Toy
set_option Elab.async false
set_option linter.all false
set_option maxRecDepth 100000
namespace Toy
open PySem L2
/-! ### draws: a source of numbers -/
/-- at p stands a source from which at most n have been mixed -/
def SrcAt (H : Hp) (p : Addr) (n : Nat) : Prop := ∃ a b c : Int, H p = some (.lst [.int a, .int b, .int c]) ∧ 0 ≤ a ∧ 0 ≤ b ∧ b < 2147483647 ∧ 0 ≤ c ∧ c ≤ (n : Int)
/-- all that was tracked, but p, is as it was -/
def Off (p : Addr) (H H' : Hp) : Prop := ∀ b o, H b = some o → b ≠ p → H' b = some o
theorem Off.refl (p : Addr) (H : Hp) : Off p H H := fun _ _ h _ => h
theorem Off.trans {p : Addr} {H H1 H2 : Hp} (a : Off p H H1) (b : Off p H1 H2) : Off p H H2 := fun c o h n => b c o (a c o h n) n
theorem Off.upd {p : Addr} {H : Hp} {o : HO} : Off p H (upd H p o) := fun _ _ h n => (upd_ne n).trans h
theorem Off.new {p q : Addr} {H H1 : Hp} {o : HO} (a : Off p H H1) (n : H1 q = none) : Off p H (L2.upd H1 q o) := fun b u h nb => by
  have z := a b u h nb
  exact (upd_ne (ne_of_none z n)).trans z
theorem same_new {H : Hp} {p : Addr} {o : HO} (h : H p = none) : Same H (upd H p o) := fun b x e => by
  rw [upd_ne (ne_of_none e h)]
  exact e
theorem Same.off {p : Addr} {H H' : Hp} (h : Same H H') : Off p H H' := fun b o e _ => h b o e
def spState : Sp := fun vs H Q _ => ∃ c : Int, vs = [.int c] ∧ ∀ p H', H p = none → SrcAt H' p 0 → Same H H' → Q (.ref p) H'
def spPick : Sp := fun vs H Q _ => ∃ (p : Addr) (m : Int) (n : Nat), vs = [.ref p, .int m] ∧ SrcAt H p n ∧ 1 ≤ m ∧ m ≤ 1000000 ∧ n ≤ 100000 ∧
  ∀ r H', 0 ≤ r → r < m → SrcAt H' p (n + 1) → Off p H H' → Q (.int r) H'
theorem ix0 {xs : List V} {v : V} : atI (v :: xs) 0 = some v := atI_nat (j := 0) rfl
theorem ix1 {xs : List V} {u v : V} : atI (u :: v :: xs) 1 = some v := atI_nat (j := 1) rfl
theorem ix2 {xs : List V} {u v y : V} : atI (u :: v :: y :: xs) 2 = some y := atI_nat (j := 2) rfl
section
variable {P : Program} {w : World} {K : PySem.W.Frag} {mg : Str → Option Value} {base : Heap}
theorem scState : FnScope ["_law_cell"] ["_law_cell"] (defScope sState) := ⟨rfl, rfl, rfl, by decide +kernel, rfl, by decide +kernel, by decide +kernel⟩
theorem ok_state {f : Addr} {fd : FuncData} (F : Fun K "_law_state" "_law_state" sState f fd) (ma : mg "abs" = none) : FnOk P w K mg base CX0 1 f fd ["_law_cell"] spState := by
  refine F.ok scState (fun vs H Q E h => ?_) (fun cdv A outer s H vs Q E hr h => ?_)
  · obtain ⟨c, rfl, _⟩ := h
    rfl
  · obtain ⟨c, rfl, k⟩ := h
    refine ⟨_, pss_one (ps_ret (pe_lst (pa_cons (pe_callB call_abs (by rfl) ma (by decide +kernel) (pa_cons (pv 0) pa_nil))
      (pa_cons (pe_op op_mod (pv 0) pe_int) (pa_cons pe_int pa_nil))))), ?_⟩
    refine ⟨_, rfl, c, rfl, _, rfl, _, _, rfl, rfl, (by show (0 : Int) < 1000000007; decide), by show 3 ≤ sizeLine; decide, fun p hp => ?_⟩
    refine k p _ hp ⟨_, _, _, upd_same, ?_, ?_, ?_, by decide, by decide⟩ (same_new hp)
    · split <;> omega
    · omega
    · omega
theorem scPick : FnScope ["_law_state_here", "_law_many", "_law_digit", "_law_number"] ["_law_state_here", "_law_many"] (defScope sPick) := ⟨rfl, rfl, rfl, by decide +kernel, rfl, by decide +kernel, by decide +kernel⟩
theorem ok_pick {f : Addr} {fd : FuncData} (F : Fun K "_law_pick" "_law_pick" sPick f fd) : FnOk P w K mg base CX0 1 f fd ["_law_state_here", "_law_many"] spPick := by
  refine F.ok scPick (fun vs H Q E h => ?_) (fun cdv A outer s H vs Q E hr h => ?_)
  · obtain ⟨p, m, n, rfl, _⟩ := h
    rfl
  · obtain ⟨p, m, n, rfl, ⟨a, b, c, hp, a0, b0, b1, c0, c1⟩, m0, m1, hn, k⟩ := h
    have hm : (0 : Int) < m := by omega
    refine ⟨_, pss_cons (ps_if (pt_cmpR op_ge (pe_ix ix_list (pv 0) pe_int (fun _ _ => rfl)) (pe_op op_pow pe_int pe_int) (nomark _))
        (pss_cons (ps_set (i := 2) scPick.nd rfl (Or.inl rfl) (pe_op op_mod (pe_ix ix_list (pv 0) pe_int (fun _ _ => rfl)) (pv 1)))
        (pss_cons (ps_asg (pe_op op_fdiv (pe_ix ix_list (pv 0) pe_int (fun _ _ => rfl)) (pv 1)) (pg_sub (pv 0) pe_int set_list))
        (pss_one (ps_ret (pv 2))))) pss_nil)
      (pss_cons (ps_asg (pe_op op_add (pe_ix ix_list (pv 0) pe_int (fun _ _ => rfl)) pe_int) (pg_sub (pv 0) pe_int set_list))
      (pss_cons (ps_set (i := 3) scPick.nd rfl (Or.inl rfl) (pe_op op_mod (pe_op op_add (pe_op op_add (pe_op op_mul (pe_ix ix_list (pv 0) pe_int (fun _ _ => rfl)) pe_int) (pe_op op_mul pe_int (pe_ix ix_list (pv 0) pe_int (fun _ _ => rfl)))) pe_int) pe_int))
      (pss_cons (ps_set (i := 3) scPick.nd rfl (Or.inl rfl) (pe_op op_mod (pe_op op_mul (pv 3) (pe_op op_add (pe_op op_fdiv (pv 3) pe_int) pe_int)) pe_int))
      (pss_cons (ps_asg (pv 3) (pg_sub (pv 0) pe_int set_list))
      (pss_one (ps_ret (pe_op op_mod (pe_op op_fdiv (pv 3) pe_int) (pv 1)))))))), ?_⟩
    refine ⟨_, rfl, p, _, _, _, rfl, rfl, SqL.of hp, ix0, _, _, rfl, rfl, ⟨by decide, by decide, by decide⟩, _, _, rfl, rfl, _, rfl, ite2 (fun ha => ?_) (fun ha => ?_)⟩
    · refine ⟨_, rfl, p, _, _, _, rfl, rfl, SqL.of hp, ix0, _, rfl, _, _, rfl, rfl, hm, ?_⟩
      refine ⟨_, rfl, p, _, _, _, rfl, rfl, SqL.of hp, ix0, _, rfl, _, _, rfl, rfl, ⟨hm, by omega⟩, ?_⟩
      refine ⟨_, rfl, p, _, _, 0, rfl, rfl, hp, rfl, ?_⟩
      refine ⟨_, rfl, ?_⟩
      exact k _ _ (Int.emod_nonneg _ (by omega)) (Int.emod_lt_of_pos _ hm) ⟨_, _, _, upd_same, Int.ediv_nonneg a0 (by omega), b0, b1, c0, by omega⟩ Off.upd
    · refine ⟨_, rfl, p, _, _, _, rfl, rfl, SqL.of hp, ix2, _, _, rfl, rfl, ?_⟩
      refine ⟨_, rfl, p, _, _, 2, rfl, rfl, hp, rfl, ?_⟩
      have h1 : upd H p (.lst [.int a, .int b, .int (c + 1)]) p = some (.lst [.int a, .int b, .int (c + 1)]) := upd_same
      refine ⟨_, rfl, p, _, _, _, rfl, rfl, SqL.of h1, ix1, _, _, rfl, rfl, .inl ⟨by omega, by omega⟩, _, rfl, p, _, _, _, rfl, rfl, SqL.of h1, ix2, _, _, rfl, rfl, .inl ⟨by decide, by decide⟩, _, _, rfl, rfl, _, _, rfl, rfl, _, _, rfl, rfl, (by show (0 : Int) < 2147483647; decide), ?_⟩
      generalize hx : (b * 48271 + 7919 * (c + 1) + 12345) % 2147483647 = x
      have x0 : 0 ≤ x := by rw [← hx]; exact Int.emod_nonneg _ (by omega)
      have x1 : x < 2147483647 := by rw [← hx]; exact Int.emod_lt_of_pos _ (by omega)
      refine ⟨_, rfl, _, rfl, _, _, rfl, rfl, ⟨by decide, by decide⟩, _, _, rfl, rfl, _, _, rfl, rfl, .inl ⟨by omega, by omega⟩, _, _, rfl, rfl, (by show (0 : Int) < 2147483629; decide), ?_⟩
      generalize hy : x * (x / 997 + 69069) % 2147483629 = y
      have y0 : 0 ≤ y := by rw [← hy]; exact Int.emod_nonneg _ (by omega)
      have y1 : y < 2147483629 := by rw [← hy]; exact Int.emod_lt_of_pos _ (by omega)
      refine ⟨_, rfl, _, rfl, p, _, _, 1, rfl, rfl, h1, rfl, ?_⟩
      refine ⟨_, rfl, _, _, rfl, rfl, ⟨by decide, by decide⟩, _, rfl, _, _, rfl, rfl, hm, ?_⟩
      exact k _ _ (Int.emod_nonneg _ (by omega)) (Int.emod_lt_of_pos _ hm) ⟨_, _, _, upd_same, a0, by rw [hx, hy]; exact y0, by rw [hx, hy]; omega, by omega, by omega⟩ (Off.upd.trans Off.upd)
end
end Toy
set_option Elab.async false
set_option linter.all false
set_option maxRecDepth 100000
set_option maxHeartbeats 2000000
namespace Toy
open PySem PySem.Spec PyProof.Rows L2
/-! ### comprehensions that only make things -/
theorem lc_mapW {J : It} {n : Nat} {G : Hp → Prop} {Y : Nat → Hp → V → Hp → Prop} (w : Walk J n G Y) {g : TG} {te : TE} {vs : List Nat} {σ : L2.St} {H1 : Hp} {D : Addr} {Qd : Hp → Prop} (ys : List V) (hn : ys.length = n) (h1000 : n ≤ 1000) (hD : H1 D = none)
    (hG : ∀ H, Same H1 H → G H) (hY : ∀ i H x H', Y i H x H' → Same H H')
    (step : ∀ i x H H' (R : V → Hp → Prop), i < n → Same H1 H → Y i H x H' → (∀ y H4, ys[i]? = some y → Same H' H4 → R y H4) → g x (wipe σ vs) H' fun σ2 H2 => wipe σ2 vs = wipe σ vs ∧ te σ2 H2 R)
    (hd : ∀ H, Same H1 H → H D = some (.lst ys) → Qd H) :
    ∃ W : Nat → Nat → Hp → Prop, (∃ m, W 0 m (upd H1 D (.lst []))) ∧ ∀ i m H, W i m H →
      (J.stop i H ∧ Qd H) ∨ (J.go i H ∧ ∃ Nx : Hp → Prop, (∀ H', Nx H' → ∃ m', m' < m ∧ W (i + 1) m' H') ∧ ∀ x H', J.yld i H x H' → g x (wipe σ vs) H' fun σ2 H2 => wipe σ2 vs = wipe σ vs ∧ tYes σ2 H2 fun b H3 =>
        if b = true then te σ2 H3 fun y H4 => ∃ acc, H4 D = some (.lst acc) ∧ acc.length < sizeLine ∧ Nx (upd H4 D (.lst (acc ++ [y]))) else Nx H3) := by
  refine lc_it w (fun i H => Same H1 H ∧ H D = some (.lst (ys.take i))) ⟨same_new hD, upd_same⟩ (fun i H _ h => hG H h.1) (fun i x H H' hi h hy => ?_) (fun H h => hd H h.1 (by rw [h.2, List.take_of_length_le (by omega)]))
  obtain ⟨s1, d1⟩ := h
  have s2 := hY i H x H' hy
  refine step i x H H' _ hi s1 hy fun y H4 e s4 => ?_
  have d4 := s4 _ _ (s2 _ _ d1)
  refine ⟨_, d4, ?_, fun b o e2 => ?_, ?_⟩
  · rw [List.length_take]
    exact small1000 (by omega)
  · rw [upd_ne (ne_of_none e2 hD)]
    exact s4 _ _ (s2 _ _ (s1 _ _ e2))
  · rw [upd_same, List.take_add_one, e]
    rfl
theorem bools_at (bs : List Bool) {i : Nat} {b : Bool} (h : bs[i]? = some b) {y : V} (e : (bs.map V.bl)[i]? = some y) : y = .bl b := by
  rw [List.getElem?_map, h] at e
  exact (Option.some.inj e).symm
/-! ### names -/
def LET : Str := "abcdefghijklmnopqrstuvwxyz"
def letter (c : Nat) : Bool := decide (c ∈ LET.cps.toList)
def nameS (x : Str) : Bool := (decide (1 ≤ x.length) && decide (x.length ≤ 8)) && x.cps.toList.all letter
def nameD : PyData → Bool
  | .str x => nameS x
  | _ => false
def spName : Sp := fun vs H Q _ => ∃ (v : V) (d : PyData), vs = [v] ∧ Dt H v d ∧ ∀ H', Same H H' → Q (.bl (nameD d)) H'
structure Mods (mg : Str → Option Value) : Prop where
  let_ : ∃ t, mg "LETTERS" = some (.str LET t)
  most : ∃ t, mg "LONGEST_NAME" = some (.int 8 t)
  ms : ∃ t, mg "MOST_SORTS" = some (.int 3 t)
  mkd : ∃ t, mg "MOST_KINDS" = some (.int 4 t)
  me : ∃ t, mg "MOST_ENDS" = some (.int 5 t)
  isi : mg "isinstance" = none
  str_ : mg "str" = none
  tup_ : mg "tuple" = none
  lst_ : mg "list" = none
  len : mg "len" = none
  all_ : mg "all" = none
  set_ : mg "set" = none
  dict_ : mg "dict" = none
  srt : mg "sorted" = none
section
variable {P : Program} {w : World} {K : PySem.W.Frag} {mg : Str → Option Value} {base : Heap}
theorem scName : FnScope ["thing", "sign"] ["thing"] (defScope sName) := ⟨rfl, rfl, rfl, by decide +kernel, rfl, by decide +kernel, by decide +kernel⟩
theorem ok_name {f : Addr} {fd : FuncData} (F : Fun K "is_name" "is_name" sName f fd) (M : Mods mg) : FnOk P w K mg base CX0 1 f fd ["thing"] spName := by
  obtain ⟨tl, hlet⟩ := M.let_
  obtain ⟨tm, hmost⟩ := M.most
  refine F.ok scName (fun vs H Q E h => ?_) (fun cdv A outer s H vs Q E hr h => ?_)
  · obtain ⟨v, d, rfl, _⟩ := h
    rfl
  · obtain ⟨v, d, rfl, hd, k⟩ := h
    refine ⟨_, pss_cons (ps_if (PW.pt (pw_or (pt_not (pt_val (pe_callB (call_isd (T := "str")) (by rfl) M.isi (by decide +kernel) (pa_cons (pv 0) (pa_cons (pe_bltn (v := .ty "str") (by rfl) M.str_ (by decide +kernel) rfl) pa_nil)))))
        (pw_or1 (pt_not (pt_chain op_le op_le pe_int (pe_callB call_len_str (by rfl) M.len PySem.boot_len (pa_cons (pv 0) pa_nil)) (pe_glob (v := .int 8) (by rfl) hmost ⟨_, rfl⟩)))))) (pss_one (ps_ret pe_bl)) pss_nil)
      (pss_one (ps_ret (pe_callB (cr_all rfl) (by rfl) M.all_ (by decide +kernel) (pa_cons (pe_lc (own := [("sign", 1)]) (g := gName 1) (tt := tYes) rfl scName.nd (pi_str (pv 0)) (blkOk_by (N := ["thing", "sign"]) (sc := defScope sName) (by decide +kernel)) (fun _ _ _ _ _ => pg_name (i := 1) scName.nd rfl (Or.inl rfl)) (fun _ _ _ _ _ => pts_nil)
        (fun _ _ _ _ _ => pe_cmpR op_in_sign (pv 1) (pe_glob (v := .str LET) (by rfl) hlet ⟨_, rfl⟩) rfl)) pa_nil)))), ?_⟩
    refine ⟨_, rfl, v, d, _, rfl, hd, kit_str d, _, rfl, ?_⟩
    have no : (∀ x, d ≠ .str x) → nameD d = false := fun h => by
      cases d <;> first | rfl | exact absurd rfl (h _)
    cases hd with
    | non => exact k _ (Same.refl _)
    | bl b => exact k _ (Same.refl _)
    | int i => exact k _ (Same.refl _)
    | lst e l r => exact k _ (Same.refl _)
    | tup e l r => exact k _ (Same.refl _)
    | dct e => exact k _ (Same.refl _)
    | str x hx =>
      have small : x.length ≤ sizeLine := Nat.le_of_lt (small1000 hx.1)
      refine ⟨_, rfl, x, rfl, small, _, _, rfl, rfl, _, rfl, ite2 (fun h1 => ?_) (fun h1 => ?_)⟩
      · refine ⟨_, _, rfl, rfl, _, rfl, ?_⟩
        have len1 : (1 : Int) ≤ (x.length : Int) := of_decide_eq_true h1
        by_cases h8 : (x.length : Int) ≤ 8
        · rw [decide_eq_true h8]
          refine ⟨_, rfl, x, rfl, fun D hD => ?_⟩
          refine lc_mapW (walk_str (z := x)) (x.cps.toList.map fun c => V.bl (letter c)) (by rw [List.length_map]; exact Array.length_toList) (by exact hx.1) hD (fun _ _ => trivial) (fun i H x H' h => by rw [h.1]; exact Same.refl _) (fun i y H1 H2 R hi s1 hy hR => ?_) (fun H1 s1 hD1 => ?_)
          · obtain ⟨rfl, c, hc, rfl⟩ := hy
            refine ⟨rfl, _, rfl, c, LET, rfl, rfl, hR _ _ ?_ (Same.refl _)⟩
            rw [List.getElem?_map, Array.getElem?_toList, hc]
            rfl
          · refine ⟨D, x.cps.toList.map letter, rfl, ?_, ?_⟩
            · rw [List.map_map]
              exact SqL.of hD1
            · have e : nameD (.str x) = (x.cps.toList.map letter).all id := by
                show ((decide (1 ≤ x.length) && decide (x.length ≤ 8)) && x.cps.toList.all letter) = _
                rw [decide_eq_true (by omega : 1 ≤ x.length), decide_eq_true (by omega : x.length ≤ 8), List.all_map]
                rfl
              rw [← e]
              exact k _ s1
        · rw [decide_eq_false h8]
          have e : nameD (.str x) = false := by
            show ((decide (1 ≤ x.length) && decide (x.length ≤ 8)) && x.cps.toList.all letter) = _
            rw [decide_eq_false (by omega : ¬ x.length ≤ 8), Bool.and_false, Bool.false_and]
          have k2 := k H (Same.refl _)
          rw [e] at k2
          exact k2
      · have e : nameD (.str x) = false := by
          show ((decide (1 ≤ x.length) && decide (x.length ≤ 8)) && x.cps.toList.all letter) = _
          have h2 : ¬ 1 ≤ x.length := fun q => h1 (decide_eq_true (by omega))
          rw [decide_eq_false h2, Bool.false_and, Bool.false_and]
        have k2 := k H (Same.refl _)
        rw [e] at k2
        exact ⟨_, rfl, k2⟩
end
end Toy
set_option Elab.async false
set_option linter.all false
set_option maxRecDepth 100000
set_option maxHeartbeats 2000000
namespace Toy
open PySem PySem.Spec PyProof.Rows L2
/-! ### pairs, lists, unlike things -/
theorem dec_int (a b : Int) : decide (V.int a = V.int b) = decide (a = b) := by
  by_cases h : a = b
  · rw [h, decide_eq_true rfl, decide_eq_true rfl]
  · rw [decide_eq_false h, decide_eq_false fun q => h (V.int.inj q)]
def pairD : PyData → Bool
  | .tuple ds => decide (ds.length = 2)
  | _ => false
def spPair : Sp := fun vs H Q _ => ∃ (v : V) (d : PyData), vs = [v] ∧ Dt H v d ∧ Q (.bl (pairD d)) H
def listD (a b : Int) : PyData → Bool
  | .list ds => decide (a ≤ (ds.length : Int)) && decide ((ds.length : Int) ≤ b)
  | _ => false
def spList : Sp := fun vs H Q _ => ∃ (v : V) (d : PyData) (a b : Int), vs = [v, .int a, .int b] ∧ Dt H v d ∧ Q (.bl (listD a b d)) H
def spUnlike (K : PySem.W.Frag) : Sp := fun vs H Q _ => ∃ (l : Addr) (xs : List Str), vs = [.ref l] ∧ SqL K H l (xs.map V.str) ∧ xs.length ≤ 100 ∧ Q (.bl (decide xs.Nodup)) H
/-! ### kinds' ends -/
def strO : PyData → Str
  | .str x => x
  | _ => Str.empty
abbrev Rows2 := List (Str × Str)
def kvOf (r : Str × Str) : Key × V := (Sum.inr r.1, .str r.2)
def endsD (keys : List Str) : PyData → Bool
  | .tuple ds => (decide (1 ≤ ds.length) && decide (ds.length ≤ 5)) && ((ds.all fun d => nameD d && decide (strO d ∈ keys)) && sortedS (ds.map strO))
  | _ => false
def spEnds : Sp := fun vs H Q _ => ∃ (v : V) (d : PyData) (p : Addr) (rows : Rows2), vs = [v, .ref p] ∧ Dt H v d ∧ H p = some (.dK (rows.map kvOf)) ∧ ∀ H', Same H H' → Q (.bl (endsD (rows.map (·.1)) d)) H'
def kindD (keys : List Str) : PyData → Bool
  | .tuple [n, e] => nameD n && endsD keys e
  | _ => false
def spKind : Sp := fun vs H Q _ => ∃ (v : V) (d : PyData) (p : Addr) (rows : Rows2), vs = [v, .ref p] ∧ Dt H v d ∧ H p = some (.dK (rows.map kvOf)) ∧ ∀ H', Same H H' → Q (.bl (kindD (rows.map (·.1)) d)) H'
def name0 : PyData → Str
  | .tuple (d :: _) => strO d
  | _ => Str.empty
def kindsD (keys : List Str) : PyData → Bool
  | .list ds => (decide (1 ≤ ds.length) && decide (ds.length ≤ 4)) && ((ds.all (kindD keys)) && decide (ds.map name0).Nodup)
  | _ => false
def spKinds : Sp := fun vs H Q _ => ∃ (v : V) (d : PyData) (p : Addr) (rows : Rows2), vs = [v, .ref p] ∧ Dt H v d ∧ H p = some (.dK (rows.map kvOf)) ∧ ∀ H', Same H H' → Q (.bl (kindsD (rows.map (·.1)) d)) H'
theorem val_rows : ∀ (rows : Rows2) (x : Str), (valV (rows.map kvOf) (Sum.inr x)).isSome = decide (x ∈ rows.map (·.1))
  | [], x => rfl
  | r :: rows, x => by
    have ih := val_rows rows x
    by_cases e : r.1 = x
    · rw [List.map_cons, valV_pos (p := kvOf r) (congrArg Sum.inr e), decide_eq_true (by rw [List.map_cons, e]; exact List.mem_cons_self)]
      rfl
    · rw [List.map_cons, valV_neg (p := kvOf r) (fun q => e (Sum.inr.inj q)), ih, List.map_cons]
      by_cases m : x ∈ rows.map (·.1)
      · rw [decide_eq_true m, decide_eq_true (List.mem_cons_of_mem _ m)]
      · rw [decide_eq_false m, decide_eq_false (fun q => (List.mem_cons.mp q).elim (fun z => e z.symm) m)]
/-- the texts of a list of names -/
theorem strs_of {H : Hp} : ∀ {xs : List V} {ds : List PyData}, DtAll H xs ds → (∀ d ∈ ds, nameD d = true) → xs = (ds.map strO).map V.str ∧ ds = (ds.map strO).map PyData.str
  | _, _, .nil, _ => ⟨rfl, rfl⟩
  | _, _, .cons (v := v) (d := d) h t, n => by
    obtain ⟨e1, e2⟩ := strs_of t fun d hd => n d (List.mem_cons_of_mem _ hd)
    have n0 := n _ List.mem_cons_self
    cases h with
    | str x hx =>
      refine ⟨?_, ?_⟩
      · rw [List.map_cons, List.map_cons, ← e1]
        rfl
      · rw [List.map_cons, List.map_cons, ← e2]
        rfl
    | _ => exact absurd n0 (by intro z; cases z)
theorem eqv_strs : ∀ xs ys : List Str, PyData.eqvAll (xs.map .str) (ys.map .str) = decide (xs = ys)
  | [], [] => rfl
  | [], y :: ys => rfl
  | x :: xs, [] => rfl
  | x :: xs, y :: ys => by
    show (PyData.eqv (.str x) (.str y) && PyData.eqvAll (xs.map .str) (ys.map .str)) = _
    rw [eqv_strs xs ys]
    show ((x == y) && decide (xs = ys)) = _
    by_cases e : x = y
    · subst e
      by_cases e2 : xs = ys
      · subst e2
        simp
      · rw [decide_eq_false e2, Bool.and_false, decide_eq_false fun q => e2 (List.cons.inj q).2]
    · have e3 : (x == y) = false := by simpa using e
      rw [e3, Bool.false_and, decide_eq_false fun q => e (List.cons.inj q).1]
theorem ltCps_le (a b : Str) : ltCps a.cps.toList b.cps.toList = false ↔ b.cps.toList ≤ a.cps.toList := by
  rw [ltCps_eq]
  exact ⟨fun h => of_decide_eq_false h, fun h => decide_eq_false h⟩
theorem rising_pw : ∀ (p : Str) (l : List Str), risingS p l = true → (p :: l).Pairwise fun a b => a.cps.toList ≤ b.cps.toList
  | p, [], _ => List.pairwise_singleton _ _
  | p, x :: r, h => by
    have h2 : (!ltCps x.cps.toList p.cps.toList && risingS x r) = true := h
    rw [Bool.and_eq_true] at h2
    have ih := rising_pw x r h2.2
    have hpx : p.cps.toList ≤ x.cps.toList := (ltCps_le x p).mp (by simpa using h2.1)
    refine List.pairwise_cons.mpr ⟨fun y hy => ?_, ih⟩
    rcases List.mem_cons.mp hy with rfl | hy
    · exact hpx
    · exact List.le_trans hpx ((List.pairwise_cons.mp ih).1 y hy)
theorem sorted_pw : ∀ {l : List Str}, sortedS l = true → l.Pairwise fun a b => a.cps.toList ≤ b.cps.toList
  | [], _ => List.Pairwise.nil
  | x :: r, h => rising_pw x r h
theorem str_ext {a b : Str} (h : a.cps.toList = b.cps.toList) : a = b := by
  cases a
  cases b
  exact congrArg _ (Array.toList_inj.mp h)
theorem sorted_one {l m : List Str} (hl : sortedS l = true) (hm : sortedS m = true) (p : l.Perm m) : l = m :=
  List.Perm.eq_of_pairwise (le := fun a b : Str => a.cps.toList ≤ b.cps.toList) (fun a b _ _ h1 h2 => str_ext (List.le_antisymm h1 h2)) (sorted_pw hl) (sorted_pw hm) p
theorem depth_strs : ∀ xs : List Str, PyData.depthAll (xs.map .str) ≤ 1
  | [] => by first | exact Nat.zero_le _ | decide
  | x :: xs => by
    have ih := depth_strs xs
    have e : PyData.depthAll (PyData.str x :: xs.map .str) = max (PyData.depth (.str x)) (PyData.depthAll (xs.map .str)) := by first | rfl | simp [PyData.depthAll]
    rw [List.map_cons, e]
    have e0 : PyData.depth (.str x) ≤ 1 := by first | exact Nat.le_refl _ | exact Nat.zero_le _ | simp [PyData.depth]
    omega
theorem shaped_strs {xs : List Str} (h : PyData.canLayAll0 (xs.map .str) = true) : SeqAt.shaped (.list (xs.map .str)) = true := by
  unfold SeqAt.shaped
  rw [Bool.and_eq_true]
  refine ⟨h, decide_eq_true ?_⟩
  have d := depth_strs xs
  have e : PyData.depth (.list (xs.map .str)) = PyData.depthAll (xs.map .str) + 1 := by first | rfl | simp [PyData.depth, Nat.add_comm]
  rw [e]
  omega
section
variable {P : Program} {w : World} {K : PySem.W.Frag} {mg : Str → Option Value} {base : Heap}
theorem scPair : FnScope ["thing"] ["thing"] (defScope sPair) := ⟨rfl, rfl, rfl, by decide +kernel, rfl, by decide +kernel, by decide +kernel⟩
theorem ok_pair {f : Addr} {fd : FuncData} (F : Fun K "is_pair" "is_pair" sPair f fd) (M : Mods mg) : FnOk P w K mg base CX0 1 f fd ["thing"] spPair := by
  refine F.ok scPair (fun vs H Q E h => ?_) (fun cdv A outer s H vs Q E hr h => ?_)
  · obtain ⟨v, d, rfl, _⟩ := h
    rfl
  · obtain ⟨v, d, rfl, hd, k⟩ := h
    refine ⟨_, pss_one (ps_ret (pe_and (pe_callB (call_isd (T := "tuple")) (by rfl) M.isi (by decide +kernel) (pa_cons (pv 0) (pa_cons (pe_bltn (v := .ty "tuple") (by rfl) M.tup_ (by decide +kernel) rfl) pa_nil)))
      (pe_one (pe_cmpR op_eq (pe_callB call_len_seq (by rfl) M.len PySem.boot_len (pa_cons (pv 0) pa_nil)) pe_int (nomark _))))), ?_⟩
    refine ⟨_, rfl, v, d, _, rfl, hd, kit_tuple d, _, rfl, ?_⟩
    cases hd with
    | @tup a xs ds e l r =>
      refine ⟨_, rfl, a, xs, rfl, .inr ((TupAt.sq e)), rfl, ?_⟩
      rw [dec_int, r.len]
      have e2 : decide (((ds.length : Nat) : Int) = 2) = decide (ds.length = 2) := by
        by_cases q : ds.length = 2
        · rw [decide_eq_true q, decide_eq_true (by omega)]
        · rw [decide_eq_false q, decide_eq_false (by omega)]
      rw [e2]
      exact k
    | _ => exact k
theorem scList : FnScope ["thing", "fewest", "most"] ["thing", "fewest", "most"] (defScope sList) := ⟨rfl, rfl, rfl, by decide +kernel, rfl, by decide +kernel, by decide +kernel⟩
theorem ok_list {f : Addr} {fd : FuncData} (F : Fun K "is_list" "is_list" sList f fd) (M : Mods mg) : FnOk P w K mg base CX0 1 f fd ["thing", "fewest", "most"] spList := by
  refine F.ok scList (fun vs H Q E h => ?_) (fun cdv A outer s H vs Q E hr h => ?_)
  · obtain ⟨v, d, a, b, rfl, _⟩ := h
    rfl
  · obtain ⟨v, d, a, b, rfl, hd, k⟩ := h
    refine ⟨_, pss_one (ps_ret (pe_and (pe_callB (call_isd (T := "list")) (by rfl) M.isi (by decide +kernel) (pa_cons (pv 0) (pa_cons (pe_bltn (v := .ty "list") (by rfl) M.lst_ (by decide +kernel) rfl) pa_nil)))
      (pe_one (pe_chain op_le op_le (pv 1) (pe_callB call_len_seq (by rfl) M.len PySem.boot_len (pa_cons (pv 0) pa_nil)) (pv 2))))), ?_⟩
    refine ⟨_, rfl, v, d, _, rfl, hd, kit_list d, _, rfl, ?_⟩
    cases hd with
    | @lst l xs ds e _ r =>
      refine ⟨_, rfl, _, rfl, l, xs, rfl, .inl (SqL.of e), _, _, rfl, rfl, _, rfl, ?_⟩
      have k2 : Q (.bl (decide (a ≤ (ds.length : Int)) && decide ((ds.length : Int) ≤ b))) H := k
      rw [← r.len] at k2
      by_cases q : a ≤ (xs.length : Int)
      · rw [decide_eq_true q] at k2 ⊢
        refine ⟨_, rfl, _, _, rfl, rfl, ?_⟩
        rw [Bool.true_and] at k2
        exact k2
      · rw [decide_eq_false q] at k2 ⊢
        exact k2
    | _ => exact k
theorem scUnlike : FnScope ["things"] ["things"] (defScope sUnlike) := ⟨rfl, rfl, rfl, by decide +kernel, rfl, by decide +kernel, by decide +kernel⟩
theorem ok_unlike {f : Addr} {fd : FuncData} (F : Fun K "are_unlike" "are_unlike" sUnlike f fd) (M : Mods mg) : FnOk P w K mg base CX0 1 f fd ["things"] (spUnlike K) := by
  refine F.ok scUnlike (fun vs H Q E h => ?_) (fun cdv A outer s H vs Q E hr h => ?_)
  · obtain ⟨l, xs, rfl, _⟩ := h
    rfl
  · obtain ⟨l, xs, rfl, hl, h100, k⟩ := h
    refine ⟨_, pss_one (ps_ret (pe_cmpR op_eq (pe_lenMet rfl (by rfl) M.len (by rfl) M.set_ (pv 0)) (pe_callB call_len_seq (by rfl) M.len PySem.boot_len (pa_cons (pv 0) pa_nil)) (nomark _))), ?_⟩
    refine ⟨_, rfl, l, xs, rfl, hl, h100, _, rfl, l, _, rfl, .inl hl, rfl, ?_⟩
    rw [dec_int, List.length_map]
    have e : decide (((met xs).length : Int) = (xs.length : Int)) = decide xs.Nodup := by
      by_cases q : xs.Nodup
      · rw [decide_eq_true q, decide_eq_true (by rw [(met_full xs).mpr q])]
      · rw [decide_eq_false q, decide_eq_false (fun z => q ((met_full xs).mp (by omega)))]
    rw [e]
    exact k
end
end Toy
set_option Elab.async false
set_option linter.all false
set_option maxRecDepth 100000
set_option maxHeartbeats 4000000
namespace Toy
open PySem PySem.Spec PyProof.Rows L2
theorem dget_rows {H : Hp} {p : Addr} {rows : Rows2} (h : Rd H p (.dK (rows.map kvOf))) (x : Str) : DGet H p (.str x) (valV (rows.map kvOf) (Sum.inr x)) := .inl ⟨_, Sum.inr x, h, rfl, rfl⟩
theorem noDicts_strs : ∀ zs : List Str, noDicts (zs.map .str) = true
  | [] => rfl
  | _ :: zs => noDicts_strs zs
theorem name_str {d : PyData} (h : nameD d = true) : ∃ x, d = .str x := by
  cases d with
  | str x => exact ⟨x, rfl⟩
  | _ => cases h
theorem dt_str {H : Hp} {v : V} {x : Str} (h : Dt H v (.str x)) : v = .str x ∧ okS x := by
  cases h with
  | str _ hx => exact ⟨rfl, hx⟩
theorem allB_at {α : Type} (l : List α) (f : α → Bool) {i : Nat} {d : α} (h : l[i]? = some d) : (l.map fun x => V.bl (f x))[i]? = some (V.bl (f d)) := by
  rw [List.getElem?_map, h]
  rfl
section
variable {P : Program} {w : World} {K : PySem.W.Frag} {mg : Str → Option Value} {base : Heap}
theorem scEnds : FnScope ["ends", "partners", "sort"] ["ends", "partners"] (defScope sEnds) := ⟨rfl, rfl, rfl, by decide +kernel, rfl, by decide +kernel, by decide +kernel⟩
theorem ok_ends {f fN : Addr} {fd fdN : FuncData} (F : Fun K "_are_ends" "_are_ends" sEnds f fd) (M : Mods mg) (GN : FnOk P w K mg base CX0 1 fN fdN ["thing"] spName) (kN : PySem.W.keepIn K (.ref fN) = true) (bN : Binds K fdN ["thing"] []) (gN : mg "is_name" = some (.ref fN)) :
    FnOk P w K mg base CX0 2 f fd ["ends", "partners"] spEnds := by
  obtain ⟨te, hme⟩ := M.me
  refine F.ok scEnds (fun vs H Q E h => ?_) (fun cdv A outer s H vs Q E hr h => ?_)
  · obtain ⟨v, d, p, rows, rfl, _⟩ := h
    rfl
  · obtain ⟨v, d, p, rows, rfl, hd, hp, k⟩ := h
    refine ⟨_, pss_cons (ps_if (PW.pt (pw_or (pt_not (pt_val (pe_callB (call_isd (T := "tuple")) (by rfl) M.isi (by decide +kernel) (pa_cons (pv 0) (pa_cons (pe_bltn (v := .ty "tuple") (by rfl) M.tup_ (by decide +kernel) rfl) pa_nil)))))
        (pw_or1 (pt_not (pt_chain op_le op_le pe_int (pe_callB call_len_seq (by rfl) M.len PySem.boot_len (pa_cons (pv 0) pa_nil)) (pe_glob (v := .int 5) (by rfl) hme ⟨_, rfl⟩)))))) (pss_one (ps_ret pe_bl)) pss_nil)
      (pss_cons (ps_if (pt_not (pt_val (pe_callB (cr_all rfl) (by rfl) M.all_ (by decide +kernel) (pa_cons (pe_lc (own := [("sort", 2)]) (g := gName 2) (tt := tYes) (te := tAndV (tCall spName [] E0 (tCons (tVar 2) tNil)) (tDIn (tVar 2) (tVar 1))) rfl scEnds.nd (pi_tup (pv 0)) (blkOk_by (N := ["ends", "partners", "sort"]) (sc := defScope sEnds) (by decide +kernel)) (fun _ _ _ _ _ => pg_name (i := 2) scEnds.nd rfl (Or.inl rfl)) (fun _ _ _ _ _ => pts_nil)
          (fun _ _ _ _ _ => (by exact pe_and (pe_call GN hr (by rfl) gN kN bN .nil pass0 (pa_cons (pv 2) pa_nil)) (pe_one (pe_cmp (pc_din (hu_of hr) (pv 2) (pv 1)) rfl))))) pa_nil)))) (pss_one (ps_ret pe_bl)) pss_nil)
      (pss_one (ps_ret (pe_cmpR (op_eqD hr.units) (pe_callTy call_list_of (by rfl) M.lst_ (by decide +kernel) (pa_cons (pv 0) pa_nil)) (pe_callB cr_sortTS (by rfl) M.srt (by decide +kernel) (pa_cons (pv 0) pa_nil)) (nomark _))))), ?_⟩
    refine ⟨_, rfl, v, d, _, rfl, hd, kit_tuple d, _, rfl, ?_⟩
    cases hd with
    | non => exact k _ (Same.refl _)
    | bl b => exact k _ (Same.refl _)
    | int i => exact k _ (Same.refl _)
    | str x _ => exact k _ (Same.refl _)
    | lst e l r => exact k _ (Same.refl _)
    | dct e => exact k _ (Same.refl _)
    | @tup a xs ds e l r =>
      have k' : ∀ H', Same H H' → Q (.bl ((decide (1 ≤ ds.length) && decide (ds.length ≤ 5)) && ((ds.all fun d => nameD d && decide (strO d ∈ rows.map (·.1))) && sortedS (ds.map strO)))) H' := k
      refine ⟨_, rfl, a, xs, rfl, .inr ((TupAt.sq e)), _, _, rfl, rfl, _, rfl, ite2 (fun h1 => ?_) (fun h1 => ?_)⟩
      · have len1 : (1 : Int) ≤ (xs.length : Int) := of_decide_eq_true h1
        refine ⟨_, _, rfl, rfl, _, rfl, ?_⟩
        rw [← r.len] at k'
        rw [decide_eq_true (by omega : 1 ≤ xs.length), Bool.true_and] at k'
        by_cases h5 : (xs.length : Int) ≤ 5
        · rw [decide_eq_true h5]
          rw [decide_eq_true (by omega : xs.length ≤ 5), Bool.true_and] at k'
          refine ⟨_, rfl, a, rfl, ⟨_, (TupAt.sq e)⟩, fun D hD => ?_⟩
          refine lc_mapW (walk_tup (K := K) (a := a) (xs := xs)) (ds.map fun d => V.bl (nameD d && decide (strO d ∈ rows.map (·.1)))) (by rw [List.length_map, r.len]) l hD (fun H1 s1 => (TupAt.sq (TupAt.same s1 e))) (fun i H x H' h => by rw [h.1]; exact Same.refl _) (fun i y H1 H2 R hi s1 hy hR => ?_) (fun H1 s1 hD1 => ?_)
          · obtain ⟨rfl, hy⟩ := hy
            obtain ⟨di, hdi, hDi⟩ := r.at_ hy
            have hR' := hR (.bl (nameD di && decide (strO di ∈ rows.map (·.1))))
            refine ⟨rfl, _, rfl, y, di, rfl, hDi.same s1, fun H3 s3 => ⟨_, rfl, ?_⟩⟩
            by_cases hn : nameD di = true
            · obtain ⟨x, rfl⟩ := name_str hn
              obtain ⟨rfl, _⟩ := dt_str hDi
              rw [hn] at hR' ⊢
              refine ⟨_, rfl, _, rfl, p, _, rfl, dget_rows (.inl ((s1.trans s3) _ _ hp)) x, ?_⟩
              rw [val_rows]
              exact hR' _ (by rw [allB_at ds _ hdi, hn]) s3
            · have hn' : nameD di = false := by simpa using hn
              rw [hn'] at hR' ⊢
              exact hR' _ (by rw [allB_at ds _ hdi, hn']) s3
          · refine ⟨D, ds.map fun d => (nameD d && decide (strO d ∈ rows.map (·.1))), rfl, ?_, _, rfl, ?_⟩
            · rw [List.map_map]
              exact SqL.of hD1
            · rw [List.all_map]
              have eall : (ds.all (id ∘ fun d => nameD d && decide (strO d ∈ rows.map (·.1)))) = ds.all fun d => nameD d && decide (strO d ∈ rows.map (·.1)) := rfl
              rw [eall]
              by_cases hall : (ds.all fun d => nameD d && decide (strO d ∈ rows.map (·.1))) = true
              · rw [hall] at k' ⊢
                rw [Bool.true_and] at k'
                have hnm : ∀ d ∈ ds, nameD d = true := fun d hdm => by
                  have q := List.all_eq_true.mp hall d hdm
                  rw [Bool.and_eq_true] at q
                  exact q.1
                obtain ⟨ex, ed⟩ := strs_of r hnm
                have e1 : TupAt H1 a ((ds.map strO).map V.str) := by
                  rw [← ex]
                  exact TupAt.same s1 e
                refine ⟨_, rfl, a, _, rfl, .inr (TupAt.sq e1), fun l1 n1 => ?_⟩
                have t1 := same_new (o := .lst ((ds.map strO).map V.str)) n1
                refine ⟨_, rfl, a, ds.map strO, rfl, TupAt.sq (TupAt.same t1 e1), by rw [List.length_map, ← r.len]; omega, fun ys l2 pm so n2 => ?_⟩
                have can0 : PyData.canLayAll0 ds = true := r.can (by rw [ed]; exact noDicts_strs _)
                have can1 : PyData.canLayAll0 ((ds.map strO).map .str) = true := by
                  rw [← ed]
                  exact can0
                have allS : ∀ zs : List Str, (∀ z ∈ zs, PyData.strOk z = true) → PyData.canLayAll0 (zs.map .str) = true := by
                  intro zs
                  induction zs with
                  | nil => exact fun _ => rfl
                  | cons z zs ih =>
                    intro hz
                    show (PyData.strOk z && PyData.canLayAll0 (zs.map .str)) = true
                    rw [hz z List.mem_cons_self, ih fun q hq => hz q (List.mem_cons_of_mem _ hq)]
                    rfl
                have okx : ∀ zs : List Str, PyData.canLayAll0 (zs.map .str) = true → ∀ z ∈ zs, PyData.strOk z = true := by
                  intro zs
                  induction zs with
                  | nil => exact fun _ z hz => nomatch hz
                  | cons z zs ih =>
                    intro hz q hq
                    have hz2 : (PyData.strOk z && PyData.canLayAll0 (zs.map .str)) = true := hz
                    rw [Bool.and_eq_true] at hz2
                    rcases List.mem_cons.mp hq with rfl | hq
                    · exact hz2.1
                    · exact ih hz2.2 q hq
                have can2 : PyData.canLayAll0 (ys.map .str) = true := allS ys fun z hz => okx _ can1 z (pm.mem_iff.mp hz)
                have dpS : ∀ (zs : List Str) (Hq : Hp), DpAll K Hq (zs.map V.str) (zs.map .str) := by
                  intro zs Hq
                  induction zs with
                  | nil => exact .nil
                  | cons z zs ih => exact .cons (.str z) ih
                have t2 := same_new (o := .lst (ys.map V.str)) n2
                refine ⟨.list ((ds.map strO).map .str), .list (ys.map .str), .lst (SqL.of (t2 _ _ upd_same)) (dpS _ _), .lst (SqL.of upd_same) (dpS _ _), shaped_strs can1, shaped_strs can2, ?_⟩
                have e3 : PyData.eqv (.list ((ds.map strO).map .str)) (.list (ys.map .str)) = sortedS (ds.map strO) := by
                  show PyData.eqvAll ((ds.map strO).map .str) (ys.map .str) = _
                  rw [eqv_strs]
                  by_cases q : sortedS (ds.map strO) = true
                  · rw [q]
                    exact decide_eq_true (sorted_one q so pm.symm)
                  · have q2 : sortedS (ds.map strO) = false := by simpa using q
                    rw [q2]
                    exact decide_eq_false fun z => q (by rw [z]; exact so)
                rw [e3]
                exact k' _ ((s1.trans t1).trans t2)
              · have hall' : (ds.all fun d => nameD d && decide (strO d ∈ rows.map (·.1))) = false := by simpa using hall
                rw [hall'] at k' ⊢
                exact k' _ s1
        · rw [decide_eq_false h5]
          rw [decide_eq_false (by omega : ¬ xs.length ≤ 5), Bool.false_and] at k'
          exact k' _ (Same.refl _)
      · have h2 : ¬ 1 ≤ ds.length := fun q => h1 (decide_eq_true (by rw [r.len]; omega))
        rw [decide_eq_false h2, Bool.false_and, Bool.false_and] at k'
        exact ⟨_, rfl, k' _ (Same.refl _)⟩
theorem scKind : FnScope ["row", "partners"] ["row", "partners"] (defScope sKind) := ⟨rfl, rfl, rfl, by decide +kernel, rfl, by decide +kernel, by decide +kernel⟩
theorem ok_kind {f fP fN fE : Addr} {fd fdP fdN fdE : FuncData} (F : Fun K "_is_kind" "_is_kind" sKind f fd)
    (GP : FnOk P w K mg base CX0 1 fP fdP ["thing"] spPair) (kP : PySem.W.keepIn K (.ref fP) = true) (bP : Binds K fdP ["thing"] []) (gP : mg "is_pair" = some (.ref fP))
    (GN : FnOk P w K mg base CX0 1 fN fdN ["thing"] spName) (kN : PySem.W.keepIn K (.ref fN) = true) (bN : Binds K fdN ["thing"] []) (gN : mg "is_name" = some (.ref fN))
    (GE : FnOk P w K mg base CX0 2 fE fdE ["ends", "partners"] spEnds) (kE : PySem.W.keepIn K (.ref fE) = true) (bE : Binds K fdE ["ends", "partners"] []) (gE : mg "_are_ends" = some (.ref fE)) :
    FnOk P w K mg base CX0 3 f fd ["row", "partners"] spKind := by
  refine F.ok scKind (fun vs H Q E h => ?_) (fun cdv A outer s H vs Q E hr h => ?_)
  · obtain ⟨v, d, p, rows, rfl, _⟩ := h
    rfl
  · obtain ⟨v, d, p, rows, rfl, hd, hp, k⟩ := h
    have hr1 : Room 1 _ := hr.mono (by decide)
    refine ⟨_, pss_one (ps_ret (pe_and (pe_call GP hr1 (by rfl) gP kP bP .nil pass0 (pa_cons (pv 0) pa_nil)) (pe_and (pe_call GN hr1 (by rfl) gN kN bN .nil pass0 (pa_cons (pe_ix ix_tup (pv 0) pe_int (fun _ _ => rfl)) pa_nil))
      (pe_one (pe_call GE hr (by rfl) gE kE bE .nil pass0 (pa_cons (pe_ix ix_tup (pv 0) pe_int (fun _ _ => rfl)) (pa_cons (pv 1) pa_nil))))))), ?_⟩
    refine ⟨_, rfl, v, d, rfl, hd, _, rfl, ?_⟩
    by_cases hpr : pairD d = true
    · rw [hpr]
      cases hd with
      | @tup a xs ds e l r =>
        have h2 : ds.length = 2 := of_decide_eq_true hpr
        obtain ⟨v0, v1, d0, d1, ex, ed, h0, h1⟩ := r.two h2
        subst ex
        subst ed
        · skip
          have kk : ∀ H', Same H H' → Q (.bl (nameD d0 && endsD (rows.map (·.1)) d1)) H' := k
          refine ⟨_, rfl, a, _, _, _, rfl, rfl, (TupAt.sq e), atI_nat (j := 0) rfl, v0, d0, rfl, h0, fun H1 s1 => ⟨_, rfl, ?_⟩⟩
          by_cases hn : nameD d0 = true
          · rw [hn] at kk ⊢
            rw [Bool.true_and] at kk
            refine ⟨_, rfl, a, _, _, _, rfl, rfl, (TupAt.sq (TupAt.same s1 e)), atI_nat (j := 1) rfl, _, rfl, v1, d1, p, rows, rfl, h1.same s1, s1 _ _ hp, fun H2 s2 => kk _ (s1.trans s2)⟩
          · have hn' : nameD d0 = false := by simpa using hn
            rw [hn'] at kk ⊢
            exact kk _ s1
      | _ => cases hpr
    · have hpr' : pairD d = false := by simpa using hpr
      rw [hpr']
      have e : kindD (rows.map (·.1)) d = false := by
        cases d with
        | tuple ds =>
          match ds, hpr' with
          | [], _ => rfl
          | [_], _ => rfl
          | [_, _], h => cases h
          | _ :: _ :: _ :: _, _ => rfl
        | _ => rfl
      have k2 := k H (Same.refl _)
      rw [e] at k2
      exact k2
end
end Toy
set_option Elab.async false
set_option linter.all false
set_option maxRecDepth 100000
set_option maxHeartbeats 4000000
namespace Toy
open PySem PySem.Spec PyProof.Rows L2
/-! ### dict(pairs) -/
theorem keys_putK {κ : Type} [DecidableEq κ] (kvs : List (κ × V)) (k : κ) (v : V) : (putK kvs k v).map (·.1) = addMet (kvs.map (·.1)) k := by
  unfold putK addMet
  by_cases h : (kvs.any fun kv => decide (kv.1 = k)) = true
  · have hm : k ∈ kvs.map (·.1) := by
      obtain ⟨q, hq, e⟩ := List.any_eq_true.mp h
      exact List.mem_map.mpr ⟨q, hq, of_decide_eq_true e⟩
    rw [if_pos h, if_pos hm, List.map_map]
    refine List.map_congr_left fun q _ => ?_
    show (if q.1 = k then (q.1, v) else q).1 = q.1
    split <;> rfl
  · have hm : k ∉ kvs.map (·.1) := fun z => h (by
      obtain ⟨q, hq, e⟩ := List.mem_map.mp z
      exact List.any_eq_true.mpr ⟨q, hq, decide_eq_true e⟩)
    rw [if_neg h, if_neg hm, List.map_append]
    rfl
theorem keys_mergeK : ∀ (more kvs : List (Key × V)), (mergeK kvs more).map (·.1) = (more.map (·.1)).foldl addMet (kvs.map (·.1))
  | [], _ => rfl
  | m :: more, kvs => by
    show (mergeK (putK kvs m.1 m.2) more).map (·.1) = _
    rw [keys_mergeK more, keys_putK]
    rfl
theorem mergeK_nodup : ∀ (more kvs : List (Key × V)), ((kvs ++ more).map (·.1)).Nodup → mergeK kvs more = kvs ++ more
  | [], kvs, _ => by rw [List.append_nil]; rfl
  | m :: more, kvs, h => by
    show mergeK (putK kvs m.1 m.2) more = _
    have hno : valV kvs m.1 = none := by
      cases e : valV kvs m.1 with
      | none => rfl
      | some v =>
        have hin := valV_in e
        rw [List.map_append, List.map_cons, List.nodup_append] at h
        exact absurd rfl (h.2.2 m.1 hin m.1 List.mem_cons_self)
    rw [putK_new m.2 hno, mergeK_nodup more _ (by rw [List.append_assoc]; exact h), List.append_assoc]
    rfl
theorem keys_rows (rows : Rows2) : (rows.map kvOf).map (·.1) = (rows.map (·.1)).map (Sum.inr : Str → Key) := by
  rw [List.map_map, List.map_map]
  rfl
theorem inr_nodup : ∀ xs : List Str, (xs.map (Sum.inr : Str → Key)).Nodup ↔ xs.Nodup
  | [] => ⟨fun _ => List.nodup_nil, fun _ => List.nodup_nil⟩
  | x :: xs => by
    rw [List.map_cons, List.nodup_cons, List.nodup_cons, inr_nodup xs]
    refine and_congr (not_congr ⟨fun h => ?_, fun h => List.mem_map.mpr ⟨x, h, rfl⟩⟩) Iff.rfl
    obtain ⟨y, hy, e⟩ := List.mem_map.mp h
    exact (Sum.inr.inj e) ▸ hy
theorem dict_len (rows : Rows2) : (mergeK [] (rows.map kvOf)).length ≤ rows.length ∧ ((mergeK [] (rows.map kvOf)).length = rows.length ↔ (rows.map (·.1)).Nodup) := by
  have e : (mergeK [] (rows.map kvOf)).length = (met ((rows.map (·.1)).map (Sum.inr : Str → Key))).length := by
    rw [← List.length_map (f := fun kv : Key × V => kv.1), keys_mergeK, keys_rows]
    rfl
  have e2 : ((rows.map (·.1)).map (Sum.inr : Str → Key)).length = rows.length := by rw [List.length_map, List.length_map]
  refine ⟨by rw [e, ← e2]; exact met_le _, ?_⟩
  rw [e, ← inr_nodup, ← met_full, e2]
theorem dict_is {rows : Rows2} (h : (rows.map (·.1)).Nodup) : mergeK [] (rows.map kvOf) = rows.map kvOf :=
  mergeK_nodup _ [] (by rw [List.nil_append, keys_rows]; exact (inr_nodup _).mpr h)
theorem val_at : ∀ {rows : Rows2} {i : Nat} {r : Str × Str}, (rows.map (·.1)).Nodup → rows[i]? = some r → valV (rows.map kvOf) (Sum.inr r.1) = some (.str r.2)
  | [], i, r, _, e => by simp at e
  | q :: rows, 0, r, _, e => by
    have e2 : q = r := Option.some.inj e
    subst e2
    exact valV_pos rfl
  | q :: rows, i + 1, r, h, e => by
    rw [List.map_cons, List.nodup_cons] at h
    have e2 : rows[i]? = some r := e
    have hm : r.1 ∈ rows.map (·.1) := List.mem_map.mpr ⟨r, List.mem_of_getElem? e2, rfl⟩
    rw [List.map_cons, valV_neg (p := kvOf q) (fun z => h.1 (by rw [Sum.inr.inj z]; exact hm))]
    exact val_at h.2 e2
theorem val_str : ∀ {rows : Rows2} {k : Key} {v : V}, valV (rows.map kvOf) k = some v → ∃ y, v = .str y
  | [], _, _, e => by cases e
  | q :: rows, k, v, e => by
    by_cases h : (kvOf q).1 = k
    · rw [List.map_cons, valV_pos h] at e
      exact ⟨q.2, (Option.some.inj e).symm⟩
    · rw [List.map_cons, valV_neg h] at e
      exact val_str e
/-! ### sorts -/
def rowD : PyData → Bool
  | .tuple [a, b] => nameD a && nameD b
  | _ => false
def rowOf : PyData → Str × Str
  | .tuple [a, b] => (strO a, strO b)
  | _ => (Str.empty, Str.empty)
def mutualB (rows : Rows2) : Bool := rows.all fun r => decide (valV (rows.map kvOf) (Sum.inr r.2) = some (.str r.1))
def sortsD : PyData → Bool
  | .list ds => (decide (1 ≤ ds.length) && decide (ds.length ≤ 3)) && (ds.all rowD && (decide ((ds.map rowOf).map (·.1)).Nodup && mutualB (ds.map rowOf)))
  | _ => false
def spSorts : Sp := fun vs H Q _ => ∃ (v : V) (d : PyData), vs = [v] ∧ Dt H v d ∧ ∀ H', Same H H' → Q (.bl (sortsD d)) H'
theorem rowD_two {ds : List PyData} (h : rowD (.tuple ds) = true) : ds.length = 2 := by
  match ds, h with
  | [_, _], _ => rfl
  | [], h => cases h
  | [_], h => cases h
  | _ :: _ :: _ :: _, h => cases h
theorem kindD_two {keys : List Str} {ds : List PyData} (h : kindD keys (.tuple ds) = true) : ds.length = 2 := by
  match ds, h with
  | [_, _], _ => rfl
  | [], h => cases h
  | [_], h => cases h
  | _ :: _ :: _ :: _, h => cases h
theorem rows_of {K : PySem.W.Frag} {H : Hp} : ∀ {xs : List V} {ds : List PyData}, DtAll H xs ds → (∀ d ∈ ds, rowD d = true) → ∃ ps : List Addr, xs = ps.map V.ref ∧ Paired (fun p kv => SqT K H p [kV kv.1, kv.2]) ps ((ds.map rowOf).map kvOf)
  | _, _, .nil, _ => ⟨[], rfl, .nil⟩
  | _, _, .cons (v := v) (d := d) h t, n => by
    obtain ⟨ps, e1, e2⟩ := rows_of (K := K) t fun d hd => n d (List.mem_cons_of_mem _ hd)
    have n0 := n _ List.mem_cons_self
    cases h with
    | @tup a xs ds e l r =>
      obtain ⟨v0, v1, d0, d1, ex, ed, h0, h1⟩ := r.two (rowD_two n0)
      subst ex
      subst ed
      · skip
        have n2 : (nameD d0 && nameD d1) = true := n0
        rw [Bool.and_eq_true] at n2
        obtain ⟨x, rfl⟩ := name_str n2.1
        obtain ⟨y, rfl⟩ := name_str n2.2
        obtain ⟨rfl, _⟩ := dt_str h0
        obtain ⟨rfl, _⟩ := dt_str h1
        exact ⟨a :: ps, by rw [e1]; rfl, .cons ((TupAt.sq e)) e2⟩
    | _ => cases n0
section
variable {P : Program} {w : World} {K : PySem.W.Frag} {mg : Str → Option Value} {base : Heap}
theorem scKinds : FnScope ["kinds", "partners", "row"] ["kinds", "partners"] (defScope sKinds) := ⟨rfl, rfl, rfl, by decide +kernel, rfl, by decide +kernel, by decide +kernel⟩
theorem ok_kinds {f fL fK fU : Addr} {fd fdL fdK fdU : FuncData} (F : Fun K "_are_kinds" "_are_kinds" sKinds f fd) (M : Mods mg)
    (GL : FnOk P w K mg base CX0 1 fL fdL ["thing", "fewest", "most"] spList) (kL : PySem.W.keepIn K (.ref fL) = true) (bL : Binds K fdL ["thing", "fewest", "most"] []) (gL : mg "is_list" = some (.ref fL))
    (GK : FnOk P w K mg base CX0 3 fK fdK ["row", "partners"] spKind) (kK : PySem.W.keepIn K (.ref fK) = true) (bK : Binds K fdK ["row", "partners"] []) (gK : mg "_is_kind" = some (.ref fK))
    (GU : FnOk P w K mg base CX0 1 fU fdU ["things"] (spUnlike K)) (kU : PySem.W.keepIn K (.ref fU) = true) (bU : Binds K fdU ["things"] []) (gU : mg "are_unlike" = some (.ref fU)) :
    FnOk P w K mg base CX0 4 f fd ["kinds", "partners"] spKinds := by
  obtain ⟨tk, hmk⟩ := M.mkd
  refine F.ok scKinds (fun vs H Q E h => ?_) (fun cdv A outer s H vs Q E hr h => ?_)
  · obtain ⟨v, d, p, rows, rfl, _⟩ := h
    rfl
  · obtain ⟨v, d, p, rows, rfl, hd, hp, k⟩ := h
    have hr1 : Room 1 _ := hr.mono (by decide)
    refine ⟨_, pss_cons (ps_if (pt_not (pt_val (pe_call GL hr1 (by rfl) gL kL bL .nil pass0 (pa_cons (pv 0) (pa_cons pe_int (pa_cons (pe_glob (v := .int 4) (by rfl) hmk ⟨_, rfl⟩) pa_nil)))))) (pss_one (ps_ret pe_bl)) pss_nil)
      (pss_cons (ps_if (pt_not (pt_val (pe_callB (cr_all rfl) (by rfl) M.all_ (by decide +kernel) (pa_cons (pe_lc (own := [("row", 2)]) (g := gName 2) (tt := tYes) (te := tCall spKind [] E0 (tCons (tVar 2) (tCons (tVar 1) tNil))) rfl scKinds.nd (pi_list (pv 0)) (blkOk_by (N := ["kinds", "partners", "row"]) (sc := defScope sKinds) (by decide +kernel)) (fun _ _ _ _ _ => pg_name (i := 2) scKinds.nd rfl (Or.inl rfl)) (fun _ _ _ _ _ => pts_nil)
          (fun _ _ _ _ _ => (by exact pe_call GK hr (by rfl) gK kK bK .nil pass0 (pa_cons (pv 2) (pa_cons (pv 1) pa_nil))))) pa_nil)))) (pss_one (ps_ret pe_bl)) pss_nil)
      (pss_one (ps_ret (pe_call GU hr1 (by rfl) gU kU bU .nil pass0 (pa_cons (pe_lc (own := [("row", 2)]) (g := gName 2) (tt := tYes) (te := tOp (rIxT K) (tVar 2) (tC (.int 0))) rfl scKinds.nd (pi_list (pv 0)) (blkOk_by (N := ["kinds", "partners", "row"]) (sc := defScope sKinds) (by decide +kernel)) (fun _ _ _ _ _ => pg_name (i := 2) scKinds.nd rfl (Or.inl rfl)) (fun _ _ _ _ _ => pts_nil)
          (fun _ _ _ _ _ => (by exact pe_ix ix_tup (pv 2) pe_int (fun _ _ => rfl)))) pa_nil))))), ?_⟩
    refine ⟨_, rfl, v, d, 1, 4, rfl, hd, _, rfl, ?_⟩
    by_cases hl : listD 1 4 d = true
    · rw [hl]
      cases hd with
      | @lst a xs ds e l r =>
        have hl2 : (decide ((1 : Int) ≤ (ds.length : Int)) && decide ((ds.length : Int) ≤ 4)) = true := hl
        rw [Bool.and_eq_true, decide_eq_true_eq, decide_eq_true_eq] at hl2
        have k' : ∀ H', Same H H' → Q (.bl ((decide (1 ≤ ds.length) && decide (ds.length ≤ 4)) && ((ds.all (kindD (rows.map (·.1)))) && decide (ds.map name0).Nodup))) H' := k
        rw [decide_eq_true (by omega : 1 ≤ ds.length), decide_eq_true (by omega : ds.length ≤ 4), Bool.true_and, Bool.true_and] at k'
        refine ⟨_, rfl, a, rfl, ⟨_, SqL.of e⟩, fun D hD => ?_⟩
        refine lc_mapW (walk_list (K := K) (a := a) (xs := xs)) (ds.map fun d => V.bl (kindD (rows.map (·.1)) d)) (by rw [List.length_map, r.len]) l hD (fun H1 s1 => SqL.of (s1 _ _ e)) (fun i H x H' h => by rw [h.1]; exact Same.refl _) (fun i y H1 H2 R hi s1 hy hR => ?_) (fun H1 s1 hD1 => ?_)
        · obtain ⟨rfl, hy⟩ := hy
          obtain ⟨di, hdi, hDi⟩ := r.at_ hy
          exact ⟨rfl, _, rfl, _, rfl, y, di, p, rows, rfl, hDi.same s1, s1 _ _ hp, fun H3 s3 => hR _ _ (allB_at ds _ hdi) s3⟩
        · refine ⟨D, ds.map (kindD (rows.map (·.1))), rfl, ?_, _, rfl, ?_⟩
          · rw [List.map_map]
            exact SqL.of hD1
          · rw [List.all_map]
            have eall : (ds.all (id ∘ kindD (rows.map (·.1)))) = ds.all (kindD (rows.map (·.1))) := rfl
            rw [eall]
            by_cases hall : ds.all (kindD (rows.map (·.1))) = true
            · rw [hall] at k' ⊢
              rw [Bool.true_and] at k'
              refine ⟨_, rfl, a, rfl, ⟨_, SqL.of (s1 _ _ e)⟩, fun D2 hD2 => ?_⟩
              refine lc_mapW (walk_list (K := K) (a := a) (xs := xs)) ((ds.map name0).map V.str) (by rw [List.length_map, List.length_map, r.len]) l hD2 (fun H2 s2 => SqL.of (s2 _ _ (s1 _ _ e))) (fun i H x H' h => by rw [h.1]; exact Same.refl _) (fun i y H2 H3 R hi s2 hy hR => ?_) (fun H2 s2 hD3 => ?_)
              · obtain ⟨rfl, hy⟩ := hy
                obtain ⟨di, hdi, hDi⟩ := r.at_ hy
                have hk := List.all_eq_true.mp hall di (List.mem_of_getElem? hdi)
                have s12 := s1.trans s2
                cases hDi with
                | @tup b zs es eb lb rb =>
                  obtain ⟨v0, v1, d0, d1, ex, ed, h0, h1⟩ := rb.two (kindD_two hk)
                  subst ex
                  subst ed
                  · skip
                    have hk2 : (nameD d0 && endsD (rows.map (·.1)) d1) = true := hk
                    rw [Bool.and_eq_true] at hk2
                    obtain ⟨x, rfl⟩ := name_str hk2.1
                    obtain ⟨rfl, _⟩ := dt_str h0
                    refine ⟨rfl, _, rfl, b, _, _, _, rfl, rfl, (TupAt.sq (TupAt.same s12 eb)), atI_nat (j := 0) rfl, hR _ _ ?_ (Same.refl _)⟩
                    rw [List.getElem?_map, List.getElem?_map, hdi]
                    rfl
                | _ => cases hk
              · refine ⟨D2, ds.map name0, rfl, SqL.of hD3, by rw [List.length_map]; omega, ?_⟩
                exact k' _ (s1.trans s2)
            · have hall' : ds.all (kindD (rows.map (·.1))) = false := by simpa using hall
              rw [hall'] at k' ⊢
              exact k' _ s1
      | _ => cases hl
    · have hl' : listD 1 4 d = false := by simpa using hl
      rw [hl']
      have e : kindsD (rows.map (·.1)) d = false := by
        cases d with
        | list ds =>
          have hl2 : (decide ((1 : Int) ≤ (ds.length : Int)) && decide ((ds.length : Int) ≤ 4)) = false := hl'
          have e2 : (decide (1 ≤ ds.length) && decide (ds.length ≤ 4)) = (decide ((1 : Int) ≤ (ds.length : Int)) && decide ((ds.length : Int) ≤ 4)) := by
            congr 1
            · exact decide_eq_decide.mpr (by omega)
            · exact decide_eq_decide.mpr (by omega)
          show ((decide (1 ≤ ds.length) && decide (ds.length ≤ 4)) && _) = false
          rw [e2, hl2, Bool.false_and]
        | _ => rfl
      have k2 := k H (Same.refl _)
      rw [e] at k2
      exact k2
theorem scSorts : FnScope ["sorts", "partners", "row", "sort"] ["sorts"] (defScope sSorts) := ⟨rfl, rfl, rfl, by decide +kernel, rfl, by decide +kernel, by decide +kernel⟩
theorem ok_sorts {f fL fP fN : Addr} {fd fdL fdP fdN : FuncData} (F : Fun K "_are_sorts" "_are_sorts" sSorts f fd) (M : Mods mg)
    (GL : FnOk P w K mg base CX0 1 fL fdL ["thing", "fewest", "most"] spList) (kL : PySem.W.keepIn K (.ref fL) = true) (bL : Binds K fdL ["thing", "fewest", "most"] []) (gL : mg "is_list" = some (.ref fL))
    (GP : FnOk P w K mg base CX0 1 fP fdP ["thing"] spPair) (kP : PySem.W.keepIn K (.ref fP) = true) (bP : Binds K fdP ["thing"] []) (gP : mg "is_pair" = some (.ref fP))
    (GN : FnOk P w K mg base CX0 1 fN fdN ["thing"] spName) (kN : PySem.W.keepIn K (.ref fN) = true) (bN : Binds K fdN ["thing"] []) (gN : mg "is_name" = some (.ref fN)) :
    FnOk P w K mg base CX0 2 f fd ["sorts"] spSorts := by
  obtain ⟨tk, hms⟩ := M.ms
  refine F.ok scSorts (fun vs H Q E h => ?_) (fun cdv A outer s H vs Q E hr h => ?_)
  · obtain ⟨v, d, rfl, _⟩ := h
    rfl
  · obtain ⟨v, d, rfl, hd, k⟩ := h
    refine ⟨_, pss_cons (ps_if (pt_not (pt_val (pe_call GL hr (by rfl) gL kL bL .nil pass0 (pa_cons (pv 0) (pa_cons pe_int (pa_cons (pe_glob (v := .int 3) (by rfl) hms ⟨_, rfl⟩) pa_nil)))))) (pss_one (ps_ret pe_bl)) pss_nil)
      (pss_cons (ps_if (pt_not (pt_val (pe_callB (cr_all rfl) (by rfl) M.all_ (by decide +kernel) (pa_cons (pe_lc (own := [("row", 2)]) (g := gName 2) (tt := tYes)
          (te := tAndV (tCall spPair [] E0 (tCons (tVar 2) tNil)) (tAndV (tCall spName [] E0 (tCons (tOp (rIxT K) (tVar 2) (tC (.int 0))) tNil)) (tCall spName [] E0 (tCons (tOp (rIxT K) (tVar 2) (tC (.int 1))) tNil))))
          rfl scSorts.nd (pi_list (pv 0)) (blkOk_by (N := ["sorts", "partners", "row", "sort"]) (sc := defScope sSorts) (by decide +kernel)) (fun _ _ _ _ _ => pg_name (i := 2) scSorts.nd rfl (Or.inl rfl)) (fun _ _ _ _ _ => pts_nil)
          (fun _ _ _ _ _ => (by exact pe_and (pe_call GP hr (by rfl) gP kP bP .nil pass0 (pa_cons (pv 2) pa_nil)) (pe_and (pe_call GN hr (by rfl) gN kN bN .nil pass0 (pa_cons (pe_ix ix_tup (pv 2) pe_int (fun _ _ => rfl)) pa_nil)) (pe_one (pe_call GN hr (by rfl) gN kN bN .nil pass0 (pa_cons (pe_ix ix_tup (pv 2) pe_int (fun _ _ => rfl)) pa_nil))))))) pa_nil)))) (pss_one (ps_ret pe_bl)) pss_nil)
      (pss_cons (ps_set (i := 1) scSorts.nd rfl (Or.inr rfl) (pe_callTy (call_dictP rfl) (by rfl) M.dict_ (by decide +kernel) (pa_cons (pv 0) pa_nil)))
      (pss_cons (ps_if (pt_cmpR op_lt (pe_callB call_lenD (by rfl) M.len PySem.boot_len (pa_cons (pv 1) pa_nil)) (pe_callB call_len_seq (by rfl) M.len PySem.boot_len (pa_cons (pv 0) pa_nil)) (nomark _)) (pss_one (ps_ret pe_bl)) pss_nil)
      (pss_one (ps_ret (pe_callB (cr_all rfl) (by rfl) M.all_ (by decide +kernel) (pa_cons (pe_lock (pe_lc (own := [("sort", 3)]) (g := gName 3) (tt := tYes) (te := tOp rEq (tDGet1 (tVar 1) (tDGet (tVar 1) (tVar 3))) (tVar 3))
          rfl scSorts.nd (pi_keys (pv 1)) (blkOk_by (N := ["sorts", "partners", "row", "sort"]) (sc := defScope sSorts) (by decide +kernel)) (fun _ _ _ _ _ => pg_name (i := 3) scSorts.nd rfl (Or.inl rfl)) (fun _ _ _ _ _ => pts_nil)
          (fun _ _ _ _ _ => (by exact pe_cmpR op_eq (pe_dget1 (hu_of hr) (pv 1) (pe_dget (hu_of hr) (pv 1) (pv 3) (fun _ _ => rfl)) ⟨rfl, rfl, rfl, rfl⟩) (pv 3) (nomark _))))) pa_nil))))))), ?_⟩
    refine ⟨_, rfl, v, d, 1, 3, rfl, hd, _, rfl, ?_⟩
    by_cases hl : listD 1 3 d = true
    · rw [hl]
      cases hd with
      | @lst a xs ds e l r =>
        have hl2 : (decide ((1 : Int) ≤ (ds.length : Int)) && decide ((ds.length : Int) ≤ 3)) = true := hl
        rw [Bool.and_eq_true, decide_eq_true_eq, decide_eq_true_eq] at hl2
        have k' : ∀ H', Same H H' → Q (.bl ((decide (1 ≤ ds.length) && decide (ds.length ≤ 3)) && (ds.all rowD && (decide ((ds.map rowOf).map (·.1)).Nodup && mutualB (ds.map rowOf))))) H' := k
        rw [decide_eq_true (by omega : 1 ≤ ds.length), decide_eq_true (by omega : ds.length ≤ 3), Bool.true_and, Bool.true_and] at k'
        refine ⟨_, rfl, a, rfl, ⟨_, SqL.of e⟩, fun D hD => ?_⟩
        refine lc_mapW (walk_list (K := K) (a := a) (xs := xs)) (ds.map fun d => V.bl (rowD d)) (by rw [List.length_map, r.len]) l hD (fun H1 s1 => SqL.of (s1 _ _ e)) (fun i H x H' h => by rw [h.1]; exact Same.refl _) (fun i y H1 H2 R hi s1 hy hR => ?_) (fun H1 s1 hD1 => ?_)
        · obtain ⟨rfl, hy⟩ := hy
          obtain ⟨di, hdi, hDi⟩ := r.at_ hy
          have hR' := fun H4 s4 => hR _ H4 (allB_at ds rowD hdi) s4
          refine ⟨rfl, _, rfl, y, di, rfl, hDi.same s1, _, rfl, ?_⟩
          by_cases hpr : pairD di = true
          · rw [hpr]
            cases hDi with
            | @tup b zs es eb lb rb =>
              have h2 : es.length = 2 := of_decide_eq_true hpr
              obtain ⟨v0, v1, d0, d1, ex, ed, h0, h1⟩ := rb.two h2
              subst ex
              subst ed
              · skip
                have kk : ∀ H4, Same H2 H4 → R (.bl (nameD d0 && nameD d1)) H4 := hR'
                refine ⟨_, rfl, b, _, _, _, rfl, rfl, (TupAt.sq (TupAt.same s1 eb)), atI_nat (j := 0) rfl, v0, d0, rfl, h0.same s1, fun H3 s3 => ⟨_, rfl, ?_⟩⟩
                by_cases hn : nameD d0 = true
                · rw [hn] at kk ⊢
                  rw [Bool.true_and] at kk
                  exact ⟨_, rfl, b, _, _, _, rfl, rfl, (TupAt.sq (TupAt.same s3 (TupAt.same s1 eb))), atI_nat (j := 1) rfl, v1, d1, rfl, h1.same (s1.trans s3), fun H4 s4 => kk _ (s3.trans s4)⟩
                · have hn' : nameD d0 = false := by simpa using hn
                  rw [hn'] at kk ⊢
                  exact kk _ s3
            | _ => cases hpr
          · have hpr' : pairD di = false := by simpa using hpr
            rw [hpr']
            have e2 : rowD di = false := by
              cases di with
              | tuple es =>
                match es, hpr' with
                | [], _ => rfl
                | [_], _ => rfl
                | [_, _], h => cases h
                | _ :: _ :: _ :: _, _ => rfl
              | _ => rfl
            have k2 := hR' H2 (Same.refl _)
            rw [e2] at k2
            exact k2
        · refine ⟨D, ds.map rowD, rfl, ?_, _, rfl, ?_⟩
          · rw [List.map_map]
            exact SqL.of hD1
          · rw [List.all_map]
            have eall : (ds.all (id ∘ rowD)) = ds.all rowD := rfl
            rw [eall]
            by_cases hall : ds.all rowD = true
            · rw [hall] at k' ⊢
              rw [Bool.true_and] at k'
              obtain ⟨ps, exs, pr⟩ := rows_of (K := K) (r.same s1) (fun d hdm => List.all_eq_true.mp hall d hdm)
              have e1 := s1 _ _ e
              rw [exs] at e1
              refine ⟨_, rfl, a, ps, _, rfl, SqL.of e1, pr, fun dp hdp => ?_⟩
              have t1 := same_new (o := .dK (mergeK [] ((ds.map rowOf).map kvOf))) hdp
              have hdp2 : upd H1 dp (.dK (mergeK [] ((ds.map rowOf).map kvOf))) dp = some (.dK (mergeK [] ((ds.map rowOf).map kvOf))) := upd_same
              generalize upd H1 dp (.dK (mergeK [] ((ds.map rowOf).map kvOf))) = H2 at t1 hdp2 ⊢
              refine ⟨_, rfl, dp, _, rfl, hdp2, _, rfl, a, _, rfl, .inl (SqL.of (t1 _ _ e1)), _, _, rfl, rfl, _, rfl, ite2 (fun hlt => ?_) (fun hlt => ?_)⟩
              · have lt1 := of_decide_eq_true hlt
                have ln := dict_len (ds.map rowOf)
                rw [List.length_map] at ln
                rw [List.length_map] at lt1
                have psl : ps.length = ds.length := by
                  have q := r.len
                  rw [exs, List.length_map] at q
                  exact q
                have nn : ¬ ((ds.map rowOf).map (·.1)).Nodup := fun z => by
                  have q := ln.2.mpr z
                  omega
                have k2 := k' _ (s1.trans t1)
                rw [decide_eq_false nn, Bool.false_and] at k2
                exact k2
              · have ln := dict_len (ds.map rowOf)
                rw [List.length_map] at ln
                have psl : ps.length = ds.length := by
                  have q := r.len
                  rw [exs, List.length_map] at q
                  exact q
                have nd : ((ds.map rowOf).map (·.1)).Nodup := by
                  refine ln.2.mp ?_
                  have q : ¬ (((mergeK [] ((ds.map rowOf).map kvOf)).length : Int) < (ps.map V.ref).length) := fun z => hlt (decide_eq_true z)
                  rw [List.length_map] at q
                  omega
                rw [decide_eq_true nd, Bool.true_and] at k'
                rw [dict_is nd] at hdp2
                generalize hrows : ds.map rowOf = rows at k' hdp2 nd
                have ndp : ∀ b o, H b = some o → b ≠ dp := fun b o eb => ne_of_none (s1 b o eb) hdp
                refine ⟨dp, _, hdp2, trivial, fun od => ?_⟩
                have fz : upd H2 dp (.frz od (.dK (rows.map kvOf))) dp = some (.frz od (.dK (rows.map kvOf))) := upd_same
                have t3 : ∀ b o, H2 b = some o → b ≠ dp → upd H2 dp (.frz od (.dK (rows.map kvOf))) b = some o := fun b o eb nb => (upd_ne nb).trans eb
                generalize upd H2 dp (.frz od (.dK (rows.map kvOf))) = H3 at fz t3 ⊢
                refine ⟨_, rfl, dp, od, rfl, .inl ⟨_, fz, fun D2 hD2 => ?_⟩⟩
                refine lc_mapW (walk_keys (d := dp) (o := od) (kvs := rows.map kvOf)) (rows.map fun r => V.bl (decide (valV (rows.map kvOf) (Sum.inr r.2) = some (.str r.1)))) (by rw [List.length_map, List.length_map]) (by rw [List.length_map, ← hrows, List.length_map]; omega) hD2 (fun H4 s4 => s4 _ _ fz) (fun i H x H' h => by rw [h.1]; exact Same.refl _) (fun i y H4 H5 R hi s4 hy hR => ?_) (fun H4 s4 hD4 => ?_)
                · obtain ⟨rfl, kk, vv, hkv, rfl⟩ := hy
                  rw [List.getElem?_map] at hkv
                  cases hri : rows[i]? with
                  | none =>
                    rw [hri] at hkv
                    cases hkv
                  | some rr =>
                    rw [hri] at hkv
                    cases hkv
                    have v1 := val_at nd hri
                    have rd : Rd H5 dp (.dK (rows.map kvOf)) := .inr ⟨od, s4 _ _ fz⟩
                    have g1 := dget_rows rd rr.1
                    rw [v1] at g1
                    refine ⟨rfl, _, rfl, dp, rfl, .inl ⟨_, rd⟩, _, rfl, _, rfl, dp, _, rfl, g1, _, dget_rows rd rr.2, _, rfl, ?_, ?_⟩
                    · cases ho : valV (rows.map kvOf) (Sum.inr rr.2) with
                      | none => rfl
                      | some z =>
                        obtain ⟨y, rfl⟩ := val_str ho
                        rfl
                    · have e5 : decide ((valV (rows.map kvOf) (Sum.inr rr.2)).getD .non = kV (kvOf rr).1) = decide (valV (rows.map kvOf) (Sum.inr rr.2) = some (.str rr.1)) := by
                        cases ho : valV (rows.map kvOf) (Sum.inr rr.2) with
                        | none => exact (decide_eq_false (by intro z; cases z)).trans (decide_eq_false (by intro z; cases z)).symm
                        | some z =>
                          show decide (z = V.str rr.1) = _
                          by_cases q : z = V.str rr.1
                          · rw [decide_eq_true q, decide_eq_true (by rw [q])]
                          · rw [decide_eq_false q, decide_eq_false fun u => q (Option.some.inj u)]
                      have hR' := hR (.bl (decide (valV (rows.map kvOf) (Sum.inr rr.2) = some (.str rr.1)))) H5 (allB_at rows _ hri) (Same.refl _)
                      rw [← e5] at hR'
                      exact hR'
                · refine ⟨s4 _ _ fz, D2, rows.map fun r => (decide (valV (rows.map kvOf) (Sum.inr r.2) = some (.str r.1))), rfl, ?_, ?_⟩
                  · have nD : D2 ≠ dp := fun z => by
                      rw [z, fz] at hD2
                      cases hD2
                    rw [List.map_map]
                    exact SqL.of ((upd_ne nD).trans hD4)
                  · rw [List.all_map]
                    refine k' _ fun b o eb => ?_
                    have nb := ndp b o eb
                    exact (upd_ne nb).trans (s4 _ _ (t3 _ _ (t1 _ _ (s1 _ _ eb)) nb))
            · have hall' : ds.all rowD = false := by simpa using hall
              rw [hall'] at k' ⊢
              exact k' _ s1
      | _ => cases hl
    · have hl' : listD 1 3 d = false := by simpa using hl
      rw [hl']
      have e : sortsD d = false := by
        cases d with
        | list ds =>
          have hl2 : (decide ((1 : Int) ≤ (ds.length : Int)) && decide ((ds.length : Int) ≤ 3)) = false := hl'
          have e2 : (decide (1 ≤ ds.length) && decide (ds.length ≤ 3)) = (decide ((1 : Int) ≤ (ds.length : Int)) && decide ((ds.length : Int) ≤ 3)) := by
            congr 1
            · exact decide_eq_decide.mpr (by omega)
            · exact decide_eq_decide.mpr (by omega)
          show ((decide (1 ≤ ds.length) && decide (ds.length ≤ 3)) && _) = false
          rw [e2, hl2, Bool.false_and]
        | _ => rfl
      have k2 := k H (Same.refl _)
      rw [e] at k2
      exact k2
end
end Toy
set_option Elab.async false
set_option linter.all false
set_option maxRecDepth 100000
set_option maxHeartbeats 2000000
namespace Toy
open PySem PySem.Spec PyProof.Rows L2
/-- the promise of «self.f = v» as an exception's __init__ -/
def spExI (C : Addr) (f : Str) : Sp := fun vs H Q _ => ∃ (a : Addr) (v : V), vs = [.ref a, v] ∧ H a = some (exo a C none) ∧ ∀ dx, H dx = none → dx ≠ a → Q .non (upd (upd H dx (exd dx [(f, v)])) a (exo a C (some dx)))
theorem ok_exinit {P : Program} {w : World} {K : PySem.W.Frag} {mg : Str → Option Value} {base : Heap} {st : Stmt} {f q : Str} {fI C : Addr} {fd : FuncData} {p1 p2 p3 p4 : Pos} (hbody : defBody st = [.Assign [.Attribute (.Name "self" p1) f p2] (.Name f p3) p4])
    (S : FnScope ["self", f] ["self", f] (defScope st)) (v0 : (defScope st).names.lookup ("self" : Str) = some .local) (v1 : (defScope st).names.lookup f = some .local) (hf : (f == ("__debug__" : Str)) = false) (hf2 : (f == ("__classdict__" : Str)) = false)
    (F : Fun K "__init__" q st fI fd) (T : OexC K C) (hno : PySem.W.findIn K (.ref C) f = some none) : FnOk P w K mg base CX0 1 fI fd ["self", f] (spExI C f) := by
  refine F.ok S (fun vs H Q E h => ?_) (fun cdv A outer s H vs Q E hr h => ?_)
  · obtain ⟨a, v, rfl, _⟩ := h
    rfl
  · obtain ⟨a, v, rfl, ha, k⟩ := h
    rw [hbody]
    refine ⟨_, pss_one (ps_ost (pv 0 rfl (Or.inl v0)) (pv 1 rfl (Or.inl v1) hf hf2)), ?_⟩
    exact ⟨_, rfl, _, rfl, a, C, rfl, T, hno, .inl ⟨ha, fun dx n ne => k dx n ne⟩⟩
end Toy
set_option Elab.async false
set_option linter.all false
set_option maxRecDepth 100000
set_option maxHeartbeats 4000000
namespace L2
open PySem PySem.Spec PyProof.Rows Toy
/-- C(e, ..) where what its __init__ raises is wished for at the caller's slots -/
def tMakeS (C : Addr) (sp : Sp) (E : L2.St → XK) (t : TA) : TE := fun σ H Q => t σ H fun vs H1 => ∀ x dx, H1 x = none → H1 dx = none → dx ≠ x → sp (.ref x :: vs) (upd (upd H1 dx (.own x)) x (.ins C dx [])) (fun v H2 => v = .non ∧ Q (.ref x) H2) (E σ)
section
variable {X : Cx} {CXq : CXT} {k : Nat} {f C : Addr} {fd : FuncData} {ps : List Str} {sp : Sp} {E : L2.St → XK} {x : Str} {p pos : Pos} {e : Expr} {es : List Expr} {t : TA}
theorem pe_makeS (M : Mk X.K C f) (F : FnOk X.prog X.w X.K X.mg X.base CXq k f fd ps sp) (hr : Room (k + 1) X.A) (hg : Gl X x) (hm : X.mg x = some (.ref C)) (hb : Binds X.K fd ps []) (hx : ∀ σ, PassesAt CXq X σ (E σ)) (ha : PA X (e :: es) t)
    (hdb : (x == ("__debug__" : Str)) = false := by decide) (he : starEach (e :: es) X.env = (false, eval e X.env) :: starEach es X.env := by rfl) (hpl : (backTo pos (starEach es X.env)).any (·.1) = false := by rfl) :
    PE X (.Call (.Name x p) (e :: es) [] pos) (tMakeS C sp E t) := by
  refine ⟨fun pins s σ H Q I h => ?_⟩
  refine wpAny_Call_Name_kw (ld_glob I hg hm ?_ hdb)
  refine PySem.W.callWith_K (h₀ := X.base) I.ok.mod.kin M.kp (thn (ha.run pos pins s σ H _ I h) fun us s1 hh => ?_) he hpl
  obtain ⟨vs, H1, I1, r, q⟩ := hh
  refine ⟨I1.kIn, ?_⟩
  have hq := q (s1.heap.objs.size + 1) s1.heap.objs.size (I1.hok.fresh (Nat.le_succ _)) (I1.hok.fresh (Nat.le_refl _)) (Nat.ne_of_lt (Nat.lt_succ_self _))
  have I2 := Inv.made (C := C) I1
  have r2 : Vals (V.ref (s1.heap.objs.size + 1) :: vs) (Value.ref (s1.heap.objs.size + 1) :: us) := .cons rfl r
  have len2 : (Value.ref (s1.heap.objs.size + 1) :: us ++ []).length = ps.length := by
    rw [List.append_nil, ← r2.length]
    exact F.len _ _ _ _ hq
  have bnd := hb _ (Value.ref (s1.heap.objs.size + 1) :: us) I2.kIn len2
  rw [List.append_nil] at bnd
  show wpAny _ _ (call (.ref C) us) _ _ _
  refine wpAny_call (make_map (f := f) I1.kIn M.makes M.init (beq_iff_eq.mp M.fn) (codeAny_mono (F.run _ X.stack _ _ _ _ _ _ (E σ) (hr.make C us []) (I2.env0.make C us []) bnd r2 hq) fun r s' hq' => ?_))
  match r, hq' with
  | .error e, hq' => exact hx σ pins _ _ e s' I2 hq'
  | .ok .next, hq' => exact hq'.elim
  | .ok .brk, hq' => exact hq'.elim
  | .ok .cont, hq' => exact hq'.elim
  | .ok (.ret u), hq' =>
    obtain ⟨v, H', I3, rv, ev, q3⟩ := I2.after hq'
    subst ev
    exact ⟨rv, V.ref (s1.heap.objs.size + 1), H', I3, rfl, q3⟩
end
end L2
namespace Toy
open PySem PySem.Spec PyProof.Rows L2
/-! ### the depth of data -/
theorem depth_all {n : Nat} : ∀ {ds : List PyData}, (∀ d ∈ ds, PyData.depth d ≤ n) → PyData.depthAll ds ≤ n
  | [], _ => Nat.zero_le _
  | d :: ds, h => by
    show max (PyData.depth d) (PyData.depthAll ds) ≤ n
    have h1 := h d List.mem_cons_self
    have h2 := depth_all fun e he => h e (List.mem_cons_of_mem _ he)
    omega
theorem name_depth {d : PyData} (h : nameD d = true) : PyData.depth d = 0 ∧ noDict d = true := by
  obtain ⟨x, rfl⟩ := name_str h
  exact ⟨rfl, rfl⟩
theorem noDicts_all : ∀ {ds : List PyData}, (∀ d ∈ ds, noDict d = true) → noDicts ds = true
  | [], _ => rfl
  | d :: ds, h => by
    show (noDict d && noDicts ds) = true
    rw [h d List.mem_cons_self, noDicts_all fun e he => h e (List.mem_cons_of_mem _ he)]
    rfl
theorem row_depth {d : PyData} (h : rowD d = true) : PyData.depth d ≤ 1 ∧ noDict d = true := by
  cases d with
  | tuple ds =>
    match ds, h with
    | [a, b], h =>
      have h2 : (nameD a && nameD b) = true := h
      rw [Bool.and_eq_true] at h2
      obtain ⟨x, rfl⟩ := name_str h2.1
      obtain ⟨y, rfl⟩ := name_str h2.2
      exact ⟨by show max 0 (max 0 0) + 1 ≤ 1; decide, rfl⟩
  | _ => cases h
theorem ends_depth {keys : List Str} {d : PyData} (h : endsD keys d = true) : PyData.depth d ≤ 1 ∧ noDict d = true := by
  cases d with
  | tuple ds =>
    have h2 : ((decide (1 ≤ ds.length) && decide (ds.length ≤ 5)) && ((ds.all fun d => nameD d && decide (strO d ∈ keys)) && sortedS (ds.map strO))) = true := h
    rw [Bool.and_eq_true, Bool.and_eq_true (ds.all _), List.all_eq_true] at h2
    have hn : ∀ d ∈ ds, nameD d = true := fun d hd => by
      have q := h2.2.1 d hd
      rw [Bool.and_eq_true] at q
      exact q.1
    have q1 := depth_all (n := 0) fun d hd => Nat.le_of_eq (name_depth (hn d hd)).1
    exact ⟨by show PyData.depthAll ds + 1 ≤ 1; omega, noDicts_all fun d hd => (name_depth (hn d hd)).2⟩
  | _ => cases h
theorem kind_depth {keys : List Str} {d : PyData} (h : kindD keys d = true) : PyData.depth d ≤ 2 ∧ noDict d = true := by
  cases d with
  | tuple ds =>
    match ds, h with
    | [n, e], h =>
      have h2 : (nameD n && endsD keys e) = true := h
      rw [Bool.and_eq_true] at h2
      have q1 := name_depth h2.1
      have q2 := ends_depth h2.2
      refine ⟨?_, noDicts_all fun d hd => ?_⟩
      · show max (PyData.depth n) (max (PyData.depth e) 0) + 1 ≤ 2
        omega
      · have hd2 : d = n ∨ d = e := by simpa using hd
        rcases hd2 with rfl | rfl
        · exact q1.2
        · exact q2.2
  | _ => cases h
/-- a list of plain data of little depth -/
structure Flat (ds : List PyData) : Prop where
  nd : noDicts ds = true
  dep : PyData.depthAll ds ≤ 8
theorem Flat.shape {H : Hp} {xs : List V} {ds : List PyData} (f : Flat ds) (r : DtAll H xs ds) : SeqAt.shaped (.list ds) = true := by
  unfold SeqAt.shaped
  rw [Bool.and_eq_true]
  have d := f.dep
  exact ⟨r.can f.nd, decide_eq_true (by show PyData.depthAll ds + 1 ≤ 64; omega)⟩
theorem sorts_flat {ds : List PyData} (h : sortsD (.list ds) = true) : Flat ds := by
  have h2 : ((decide (1 ≤ ds.length) && decide (ds.length ≤ 3)) && (ds.all rowD && (decide ((ds.map rowOf).map (·.1)).Nodup && mutualB (ds.map rowOf)))) = true := h
  rw [Bool.and_eq_true, Bool.and_eq_true (ds.all _), List.all_eq_true] at h2
  exact ⟨noDicts_all fun d hd => (row_depth (h2.2.1 d hd)).2, depth_all fun d hd => Nat.le_trans (row_depth (h2.2.1 d hd)).1 (by decide)⟩
theorem kinds_flat {keys : List Str} {ds : List PyData} (h : kindsD keys (.list ds) = true) : Flat ds := by
  have h2 : ((decide (1 ≤ ds.length) && decide (ds.length ≤ 4)) && ((ds.all (kindD keys)) && decide (ds.map name0).Nodup)) = true := h
  rw [Bool.and_eq_true, Bool.and_eq_true (ds.all _), List.all_eq_true] at h2
  exact ⟨noDicts_all fun d hd => (kind_depth (h2.2.1 d hd)).2, depth_all fun d hd => Nat.le_trans (kind_depth (h2.2.1 d hd)).1 (by decide)⟩
/-! ### stocks -/
theorem sk_ : ¬ (("sorts" : Str) = "kinds") := by decide +kernel
def sf (l m : Addr) : List (Str × V) := putF "kinds" (.ref m) (putF "sorts" (.ref l) [])
theorem sf_sorts (l m : Addr) : (sf l m).lookup ("sorts" : Str) = some (.ref l) := by
  unfold sf
  rw [lookup_putF, if_neg sk_, lookup_putF, if_pos rfl]
theorem sf_kinds (l m : Addr) : (sf l m).lookup ("kinds" : Str) = some (.ref m) := by
  unfold sf
  rw [lookup_putF, if_pos rfl]
/-- a stock at a with these sorts and kinds -/
structure StkAt (C : Addr) (H : Hp) (a : Addr) (ss ks : List PyData) : Prop where
  ob : ∃ dx l m, H a = some (.ins C dx (sf l m)) ∧ Dt H (.ref l) (.list ss) ∧ Dt H (.ref m) (.list ks)
  f1 : Flat ss
  f2 : Flat ks
theorem StkAt.same {C : Addr} {H H' : Hp} {a : Addr} {ss ks : List PyData} (x : StkAt C H a ss ks) (s : Same H H') : StkAt C H' a ss ks := by
  obtain ⟨⟨dx, l, m, e, h1, h2⟩, f1, f2⟩ := x
  exact ⟨⟨dx, l, m, s _ _ e, h1.same s, h2.same s⟩, f1, f2⟩
def keysD : PyData → List Str
  | .list ds => (ds.map rowOf).map (·.1)
  | _ => []
def listO : PyData → List PyData
  | .list ds => ds
  | _ => []
/-- its two lists are new, and hold what the handed ones held -/
def StkNew (C : Addr) (H H' : Hp) (self : Addr) (sv kv : V) : Prop := ∃ (dx l m a b : Addr) (xs ys : List V), H' self = some (.ins C dx (sf l m)) ∧ H' l = some (.lst xs) ∧ H' m = some (.lst ys) ∧ H l = none ∧ H m = none ∧ sv = .ref a ∧ kv = .ref b ∧ H a = some (.lst xs) ∧ H b = some (.lst ys)
/-- the stock made of these, or NoStock (CN) of the first part that isn't so -/
def spInit (C CN : Addr) : Sp := fun vs H Q E => ∃ (self dx : Addr) (sv kv : V) (sd kd : PyData), vs = [.ref self, sv, kv] ∧ H self = some (.ins C dx []) ∧ Dt H sv sd ∧ Dt H kv kd ∧
  (sortsD sd = false → ∀ H' d, H d = none → Same H H' → H' d = some (.xd [("part", .str "sorts")]) → E (.ref CN) (some d) H') ∧
  (sortsD sd = true → kindsD (keysD sd) kd = false → ∀ H' d, H d = none → Same H H' → H' d = some (.xd [("part", .str "kinds")]) → E (.ref CN) (some d) H') ∧
  (sortsD sd = true → kindsD (keysD sd) kd = true → ∀ H', StkAt C H' self (listO sd) (listO kd) → StkNew C H H' self sv kv → Off self H H' → Q .non H')
structure StkC (K : PySem.W.Frag) (mg : Str → Option Value) (C CN fX : Addr) : Prop where
  cl : Cls K C
  nS : NoAttr K C "sorts"
  nK : NoAttr K C "kinds"
  mgC : mg "Stock" = some (.ref C)
  ca : PySem.W.findIn K (.ref C) "__class__" = some (some (.builtin "object.__class__"))
  cg : PySem.W.specialIn K (.builtin "object.__class__") "__get__" = some (some (.builtin "getset_descriptor.__get__"))
  ct : PySem.W.takesIn K (.builtin "object.__class__") = some true
  cm : PySem.W.mroIn K C (.type "object") = some true
  kC : PySem.W.kitOne K (.ref C) (.ref C) = some true
  ox : OexC K CN
  noP : PySem.W.findIn K (.ref CN) "part" = some none
  ini : PySem.W.findIn K (.ref CN) "__init__" = some (some (.ref fX))
  fun_ : PySem.W.typeIn K (.ref fX) = some (.type "function")
  mgN : mg "NoStock" = some (.ref CN)
section
variable {P : Program} {w : World} {K : PySem.W.Frag} {mg : Str → Option Value} {base : Heap}
theorem scInit : FnScope ["self", "sorts", "kinds"] ["self", "sorts", "kinds"] (defScope sInit) := ⟨rfl, rfl, rfl, by decide +kernel, rfl, by decide +kernel, by decide +kernel⟩
theorem raise_same {H : Hp} {C a d dx : Addr} {fs : List (Str × V)} (na : H a = none) (nd : upd H a (exo a C none) d = none) (ne : d ≠ a) :
    H d = none ∧ Same H (upd (del (upd (upd (upd H a (exo a C none)) d (exd d fs)) a (exo a C (some d))) a) d (.xd fs)) := by
  rw [upd_ne ne] at nd
  refine ⟨nd, fun b o e => ?_⟩
  have n1 := ne_of_none e na
  have n2 := ne_of_none e nd
  rw [upd_ne n2, del_ne n1, upd_ne n1, upd_ne n2, upd_ne n1]
  exact e
theorem ok_init {f fS fK fX C CN : Addr} {fd fdS fdK fdX : FuncData} (F : Fun K "__init__" "Stock.__init__" sInit f fd) (M : Mods mg) (T : StkC K mg C CN fX)
    (GS : FnOk P w K mg base CX0 2 fS fdS ["sorts"] spSorts) (kS : PySem.W.keepIn K (.ref fS) = true) (bS : Binds K fdS ["sorts"] []) (gS : mg "_are_sorts" = some (.ref fS))
    (GK : FnOk P w K mg base CX0 4 fK fdK ["kinds", "partners"] spKinds) (kK : PySem.W.keepIn K (.ref fK) = true) (bK : Binds K fdK ["kinds", "partners"] []) (gK : mg "_are_kinds" = some (.ref fK))
    (GX : FnOk P w K mg base CX0 1 fX fdX ["self", "part"] (spExI CN "part")) (bX : Binds K fdX ["self", "part"] []) :
    FnOk P w K mg base (L2.CX P w) 5 f fd ["self", "sorts", "kinds"] (spInit C CN) := by
  refine F.okX scInit (fun vs H Q E h => ?_) (fun cdv A outer s H vs Q E hr h => ?_)
  · obtain ⟨self, dx, sv, kv, sd, kd, rfl, _⟩ := h
    rfl
  · obtain ⟨self, dx, sv, kv, sd, kd, rfl, hself, hs, hk, no1, no2, yes⟩ := h
    have hr2 : Room 2 _ := hr.mono (by decide)
    refine ⟨_, pss_cons (ps_if (pt_not (pt_val (pe_call GS hr2 (by rfl) gS kS bS .nil pass0 (pa_cons (pv 1) pa_nil)))) (pss_one (ps_raise rfl (takes_of rfl rfl rfl rfl) (pmk_oex T.ox T.ini T.fun_ GX hr2 bX .nil pass0 (by rfl) T.mgN (pa_cons pe_str pa_nil)))) pss_nil)
      (pss_cons (ps_if (pt_not (pt_val (pe_call GK hr (by rfl) gK kK bK .nil pass0 (pa_cons (pv 2) (pa_cons (pe_callTy (call_dictP rfl) (by rfl) M.dict_ (by decide +kernel) (pa_cons (pv 1) pa_nil)) pa_nil))))) (pss_one (ps_raise rfl (takes_of rfl rfl rfl rfl) (pmk_oex T.ox T.ini T.fun_ GX hr2 bX .nil pass0 (by rfl) T.mgN (pa_cons pe_str pa_nil)))) pss_nil)
      (pss_cons (ps_fld (pv 0) (pe_callTy call_list_of (by rfl) M.lst_ (by decide +kernel) (pa_cons (pv 1) pa_nil)) rfl)
      (pss_one (ps_fld (pv 0) (pe_callTy call_list_of (by rfl) M.lst_ (by decide +kernel) (pa_cons (pv 2) pa_nil)) rfl)))), ?_⟩
    refine ⟨_, rfl, sv, sd, rfl, hs, fun H1 s1 => ⟨_, rfl, ?_⟩⟩
    by_cases h1 : sortsD sd = true
    · rw [h1]
      have hs1 := hs.same s1
      cases hs1 with
      | @lst a xs ds e l r =>
        have h1' : ((decide (1 ≤ ds.length) && decide (ds.length ≤ 3)) && (ds.all rowD && (decide ((ds.map rowOf).map (·.1)).Nodup && mutualB (ds.map rowOf)))) = true := h1
        rw [Bool.and_eq_true, Bool.and_eq_true (ds.all _), Bool.and_eq_true (decide ((ds.map rowOf).map (·.1)).Nodup), List.all_eq_true, decide_eq_true_eq] at h1'
        obtain ⟨ps, exs, pr⟩ := rows_of (K := K) r h1'.2.1
        subst exs
        refine ⟨_, rfl, _, rfl, a, ps, _, rfl, SqL.of e, pr, fun dp hdp => ?_⟩
        rw [dict_is h1'.2.2.1]
        have t1 := same_new (o := .dK ((ds.map rowOf).map kvOf)) hdp
        refine ⟨kv, kd, dp, ds.map rowOf, rfl, (hk.same s1).same t1, upd_same, fun H2 s2 => ⟨_, rfl, ?_⟩⟩
        have s12 := (s1.trans t1).trans s2
        by_cases h2 : kindsD (keysD (.list ds)) kd = true
        · have h2' : kindsD ((ds.map rowOf).map (·.1)) kd = true := h2
          rw [h2']
          have hk2 := hk.same s12
          cases hk2 with
          | @lst b ys es eb lb rb =>
            have ea2 := (t1.trans s2) _ _ e
            refine ⟨_, rfl, a, _, rfl, .inl (SqL.of ea2), fun l1 n1 => ?_⟩
            have t3 := same_new (o := .lst (ps.map V.ref)) n1
            have hself3 := t3 _ _ (s12 _ _ hself)
            have nsl : self ≠ l1 := ne_of_none (s12 _ _ hself) n1
            have hl1 : upd H2 l1 (.lst (ps.map V.ref)) l1 = some (.lst (ps.map V.ref)) := upd_same
            refine ⟨_, rfl, self, C, dx, [], rfl, hself3, T.cl, T.nS, (by show 0 < 1000; decide), ?_⟩
            generalize upd H2 l1 (.lst (ps.map V.ref)) = H3 at t3 hself3 hl1 ⊢
            have s13 := s12.trans t3
            have o4 : Off self H3 (upd H3 self (.ins C dx (putF "sorts" (.ref l1) []))) := Off.upd
            have nbs : b ≠ self := ne_of (t3 _ _ eb) hself3 (by intro z; cases z)
            refine ⟨_, rfl, b, _, rfl, .inl (SqL.of (o4 _ _ (t3 _ _ eb) nbs)), fun l2 n2 => ?_⟩
            have hself4 : upd H3 self (.ins C dx (putF "sorts" (.ref l1) [])) self = some (.ins C dx (putF "sorts" (.ref l1) [])) := upd_same
            have t5 := same_new (o := .lst ys) n2
            have hl2 : upd (upd H3 self (.ins C dx (putF "sorts" (.ref l1) []))) l2 (.lst ys) l2 = some (.lst ys) := upd_same
            refine ⟨_, rfl, self, C, dx, _, rfl, t5 _ _ hself4, T.cl, T.nK, (by show 1 < 1000; decide), ?_⟩
            have nl2 : l2 ≠ self := (ne_of_none hself4 n2).symm
            generalize upd H3 self (.ins C dx (putF "sorts" (.ref l1) [])) = H4 at o4 n2 hself4 t5 hl2 ⊢
            generalize upd H4 l2 (.lst ys) = H5 at t5 hl2 ⊢
            have o6 : Off self H5 (upd H5 self (.ins C dx (putF "kinds" (.ref l2) (putF "sorts" (.ref l1) [])))) := Off.upd
            have oAll : Off self H3 (upd H5 self (.ins C dx (putF "kinds" (.ref l2) (putF "sorts" (.ref l1) [])))) := (o4.trans (Same.off t5)).trans o6
            have oH : Off self H (upd H5 self (.ins C dx (putF "kinds" (.ref l2) (putF "sorts" (.ref l1) [])))) := (Same.off s13).trans oAll
            have offD : ∀ {G G' : Hp} {u : V} {dd : PyData}, Off self G G' → G self = some (.ins C dx []) → Dt G u dd → Dt G' u dd := by
              intro G G' u dd og gs hd
              have key : ∃ Hm : Hp, Same Hm G' ∧ Dt Hm u dd := by
                refine ⟨fun q => if q = self then none else G q, fun q o e => ?_, ?_⟩
                · by_cases hq : q = self
                  · simp [hq] at e
                  · simp only [if_neg hq] at e
                    exact og q o e hq
                · have rec1 : (∀ {u : V} {dd : PyData}, Dt G u dd → Dt (fun q => if q = self then none else G q) u dd) := by
                    intro u dd hd
                    refine Dt.rec (motive_1 := fun u dd _ => Dt (fun q => if q = self then none else G q) u dd) (motive_2 := fun us ds _ => DtAll (fun q => if q = self then none else G q) us ds) .non .bl .int .str ?_ ?_ ?_ .nil (fun _ _ h1 h2 => .cons h1 h2) hd
                    · intro a xs ds e l _ ih
                      refine .lst ?_ l ih
                      have n : a ≠ self := ne_of e gs (by intro z; cases z)
                      simp only [if_neg n]
                      exact e
                    · intro a xs ds e l _ ih
                      refine .tup ⟨?_⟩ l ih
                      have n : a ≠ self := e.rd.elim (fun e => ne_of e gs (by intro z; cases z)) fun ⟨o, e⟩ => ne_of e gs (by intro z; cases z)
                      unfold Rd
                      simp only [if_neg n]
                      exact e.rd
                    · intro a e
                      refine .dct ?_
                      have n : a ≠ self := ne_of e gs (by intro z; cases z)
                      simp only [if_neg n]
                      exact e
                  exact rec1 hd
              obtain ⟨Hm, sm, dm⟩ := key
              exact dm.same sm
            have dS : Dt H3 (.ref l1) (.list ds) := .lst hl1 (by rw [List.length_map] at l ⊢; exact l) ((r.same (t1.trans s2)).same t3)
            have dK : Dt H3 (.ref b) (.list es) := hk.same s13
            have rb6 : DtAll (upd H5 self (.ins C dx (putF "kinds" (.ref l2) (putF "sorts" (.ref l1) [])))) ys es := by
              have q := offD oAll hself3 dK
              cases q with
              | @lst _ ys2 _ e2 _ r2 =>
                have e3 := oAll _ _ (t3 _ _ eb) nbs
                rw [e3] at e2
                cases e2
                exact r2
            have hH0 : H a = some (.lst (ps.map V.ref)) := by
              cases hs with
              | lst e0 _ _ =>
                have q := s1 _ _ e0
                rw [e] at q
                cases q
                exact e0
            have hH1 : H b = some (.lst ys) := by
              cases hk with
              | lst e0 _ _ =>
                have q := s12 _ _ e0
                rw [eb] at q
                cases q
                exact e0
            have nl2H : H l2 = none := by
              cases z : H l2 with
              | none => rfl
              | some o =>
                have q := ((Same.off s13).trans o4) _ _ z nl2
                rw [n2] at q
                cases q
            exact yes h1 h2 _ ⟨⟨dx, l1, l2, upd_same, offD oAll hself3 dS, .lst (o6 _ _ hl2 nl2) lb rb6⟩, sorts_flat h1, kinds_flat h2⟩ ⟨dx, l1, l2, a, b, _, _, upd_same, oAll _ _ hl1 nsl.symm, o6 _ _ hl2 nl2, s12.free n1, nl2H, rfl, rfl, hH0, hH1⟩ oH
          | _ => cases h2
        · have h2' : kindsD (keysD (.list ds)) kd = false := by simpa using h2
          have h2'' : kindsD ((ds.map rowOf).map (·.1)) kd = false := h2'
          rw [h2'']
          refine ⟨by show 1 ≤ 1000; decide, fun a2 na => ⟨a2, _, rfl, upd_same, fun d nd ne => ⟨rfl, d, _, upd_same, (by rw [upd_ne ne, upd_same]), ?_, ?_⟩⟩⟩
          · exact (raise_same (dx := d) (fs := []) na nd ne).1
          · obtain ⟨q1, q2⟩ := raise_same (dx := d) (fs := [("part", .str "kinds")]) na nd ne
            exact no2 h1 h2' _ d (s12.free q1) (s12.trans q2) upd_same
      | _ => cases h1
    · have h1' : sortsD sd = false := by simpa using h1
      rw [h1']
      refine ⟨by show 1 ≤ 1000; decide, fun a2 na => ⟨a2, _, rfl, upd_same, fun d nd ne => ⟨rfl, d, _, upd_same, (by rw [upd_ne ne, upd_same]), ?_, ?_⟩⟩⟩
      · exact (raise_same (dx := d) (fs := []) na nd ne).1
      · obtain ⟨q1, q2⟩ := raise_same (dx := d) (fs := [("part", .str "sorts")]) na nd ne
        exact no1 h1' _ d (s1.free q1) (s1.trans q2) upd_same
end
end Toy
set_option Elab.async false
set_option linter.all false
set_option maxRecDepth 100000
set_option maxHeartbeats 4000000
namespace Toy
open PySem PySem.Spec PyProof.Rows L2
theorem pe_gref {X : Cx} {x : Str} {a : Addr} {pos : Pos} (hg : Gl X x) (hm : X.mg x = some (.ref a)) (hd : (x == ("__debug__" : Str)) = false := by decide) : PE X (.Name x pos) (tC (.ref a)) := pe_glob (v := .ref a) hg hm rfl hd
/-- two stocks, or a stock and another thing -/
def spSEq (K : PySem.W.Frag) (C : Addr) : Sp := fun vs H Q _ => ∃ (a : Addr) (y : V) (ss ks : List PyData), vs = [.ref a, y] ∧ StkAt C H a ss ks ∧
  ((∃ (b : Addr) (ss' ks' : List PyData), y = .ref b ∧ StkAt C H b ss' ks' ∧ Q (.bl (PyData.eqv (.list ss) (.list ss') && PyData.eqv (.list ks) (.list ks'))) H) ∨
   ∃ t, TyX K H y t ∧ PySem.W.kitOne K t (.ref C) = some false ∧ Q (.bl false) H)
section
variable {P : Program} {w : World} {K : PySem.W.Frag} {mg : Str → Option Value} {base : Heap}
theorem dt_list {H : Hp} {l : Addr} {ds : List PyData} (h : Dt H (.ref l) (.list ds)) : ∃ xs, H l = some (.lst xs) ∧ xs.length ≤ 1000 ∧ DtAll H xs ds := by
  cases h with
  | lst e l r => exact ⟨_, e, l, r⟩
theorem stk_ty {C CN fX : Addr} (T : StkC K mg C CN fX) {H : Hp} {b : Addr} {ss ks : List PyData} (h : StkAt C H b ss ks) : TyX K H (.ref b) (.ref C) := by
  obtain ⟨⟨dx, l, m, e, _⟩, _, _⟩ := h
  exact .base (.ins e T.cl T.ca T.cg T.ct T.cm)
theorem scEq : FnScope ["self", "other"] ["self", "other"] (defScope sEq) := ⟨rfl, rfl, rfl, by decide +kernel, rfl, by decide +kernel, by decide +kernel⟩
theorem ok_eq {f fX C CN : Addr} {fd : FuncData} (F : Fun K "__eq__" "Stock.__eq__" sEq f fd) (M : Mods mg) (T : StkC K mg C CN fX) : FnOk P w K mg base CX0 1 f fd ["self", "other"] (spSEq K C) := by
  refine F.ok scEq (fun vs H Q E h => ?_) (fun cdv A outer s H vs Q E hr h => ?_)
  · obtain ⟨a, y, ss, ks, rfl, _⟩ := h
    rfl
  · obtain ⟨a, y, ss, ks, rfl, sa, k⟩ := h
    refine ⟨_, pss_one (ps_ret (pe_and (pe_callB call_isi (by rfl) M.isi (by decide +kernel) (pa_cons (pv 1) (pa_cons (pe_gref (by rfl) T.mgC) pa_nil)))
      (pe_and (pe_cmpR (op_eqD hr.units) (pe_fld (pv 0) rfl) (pe_fld (pv 1) rfl) (nomark _)) (pe_one (pe_cmpR (op_eqD hr.units) (pe_fld (pv 0) rfl) (pe_fld (pv 1) rfl) (nomark _)))))), ?_⟩
    rcases k with ⟨b, ss', ks', rfl, sb, k⟩ | ⟨t, ty, kt, k⟩
    · refine ⟨_, rfl, _, _, _, _, true, rfl, .own C, stk_ty T sb, T.kC, _, rfl, ?_⟩
      obtain ⟨⟨dx, l, m, e, h1, h2⟩, f1, f2⟩ := sa
      obtain ⟨⟨dx', l', m', e', h1', h2'⟩, f1', f2'⟩ := sb
      obtain ⟨xs, el, ll, rl⟩ := dt_list h1
      obtain ⟨ys, em, lm, rm⟩ := dt_list h2
      obtain ⟨xs', el', ll', rl'⟩ := dt_list h1'
      obtain ⟨ys', em', lm', rm'⟩ := dt_list h2'
      refine ⟨_, rfl, a, C, dx, _, _, rfl, e, T.cl, T.nS, sf_sorts l m, _, rfl, b, C, dx', _, _, rfl, e', T.cl, T.nS, sf_sorts l' m', .list ss, .list ss', .lst (SqL.of el) (rl.dp f1.nd), .lst (SqL.of el') (rl'.dp f1'.nd), f1.shape rl, f1'.shape rl', _, rfl, ?_⟩
      by_cases q : PyData.eqv (.list ss) (.list ss') = true
      · rw [q] at k ⊢
        rw [Bool.true_and] at k
        exact ⟨_, rfl, a, C, dx, _, _, rfl, e, T.cl, T.nK, sf_kinds l m, _, rfl, b, C, dx', _, _, rfl, e', T.cl, T.nK, sf_kinds l' m', .list ks, .list ks', .lst (SqL.of em) (rm.dp f2.nd), .lst (SqL.of em') (rm'.dp f2'.nd), f2.shape rm, f2'.shape rm', k⟩
      · have q' : PyData.eqv (.list ss) (.list ss') = false := by simpa using q
        rw [q'] at k ⊢
        exact k
    · exact ⟨_, rfl, _, _, _, _, false, rfl, .own C, ty, kt, _, rfl, k⟩
end
end Toy
set_option Elab.async false
set_option linter.all false
set_option maxRecDepth 100000
set_option maxHeartbeats 4000000
namespace Toy
open PySem PySem.Spec PyProof.Rows L2
/-! ### heaps without the source -/
theorem off_same {p : Addr} {H H' : Hp} (h : Off p H H') : Same (del H p) (del H' p) := fun b o e => by
  by_cases q : b = p
  · rw [q, del_same] at e
    cases e
  · rw [del_ne q] at e ⊢
    exact h b o e q
theorem del_sub {p : Addr} {H : Hp} : Same (del H p) H := fun b o e => by
  by_cases q : b = p
  · rw [q, del_same] at e
    cases e
  · rw [del_ne q] at e
    exact e
theorem SrcAt.mono {H : Hp} {p : Addr} {n m : Nat} (h : SrcAt H p n) (l : n ≤ m) : SrcAt H p m := by
  obtain ⟨a, b, c, e, a0, b0, b1, c0, c1⟩ := h
  exact ⟨a, b, c, e, a0, b0, b1, c0, by omega⟩
theorem SrcAt.same {H H' : Hp} {p : Addr} {n : Nat} (h : SrcAt H p n) (s : Same H H') : SrcAt H' p n := by
  obtain ⟨x, y, z, e, r⟩ := h
  exact ⟨x, y, z, s _ _ e, r⟩
theorem SrcAt.ne {H : Hp} {p q : Addr} {n : Nat} (h : SrcAt H p n) (n : H q = none) : q ≠ p := by
  obtain ⟨_, _, _, e, _⟩ := h
  exact (ne_of_none e n).symm
theorem SrcAt.some {H : Hp} {p : Addr} {n : Nat} (h : SrcAt H p n) : ∃ o, H p = some o := by
  obtain ⟨_, _, _, e, _⟩ := h
  exact ⟨_, e⟩
/-- what is new behind a draw was new ahead of it -/
theorem Off.free {p q : Addr} {H H' : Hp} {n : Nat} (h : Off p H H') (hp : SrcAt H' p n) (e : H' q = none) : H q = none := by
  have nq := hp.ne e
  cases z : H q with
  | none => rfl
  | some o =>
    rw [h q o z nq] at e
    cases e
/-! ### names -/
def lastsC : List Nat := [115, 111, 114, 116, 101, 110, 100]
def lettersB (w : Str) : Bool := w.cps.toList.all letter
theorem app_cps (a b : Str) : (a ++ b).cps = a.cps ++ b.cps := rfl
theorem app_len (a b : Str) : (a ++ b).length = a.length + b.length := by
  show (a.cps ++ b.cps).size = a.cps.size + b.cps.size
  exact Array.size_append
theorem letters_app {a b : Str} (ha : lettersB a = true) (hb : lettersB b = true) : lettersB (a ++ b) = true := by
  unfold lettersB at *
  rw [app_cps, Array.toList_append, List.all_append, ha, hb]
  rfl
/-- a word and one of the last signs -/
def Made (x : Str) (c : Nat) : Prop := ∃ w : Str, x = w ++ ⟨#[c]⟩ ∧ w.length ≤ 7 ∧ lettersB w = true
theorem made_name {x : Str} {c : Nat} (h : Made x c) (hc : letter c = true) : nameS x = true := by
  obtain ⟨w, rfl, hl, hw⟩ := h
  have hlen : (w ++ (⟨#[c]⟩ : Str)).length = w.length + 1 := app_len _ _
  unfold nameS
  rw [hlen, decide_eq_true (by omega : 1 ≤ w.length + 1), decide_eq_true (by omega : w.length + 1 ≤ 8)]
  have hb : lettersB (⟨#[c]⟩ : Str) = true := by
    show (([c] : List Nat).all letter) = true
    rw [List.all_cons, hc]
    rfl
  exact letters_app hw hb
theorem made_nodup : ∀ {xs : List Str} {cs : List Nat}, Paired Made xs cs → cs.Nodup → xs.Nodup
  | _, _, .nil, _ => List.nodup_nil
  | _, _, .cons (a := x) (b := c) h t, n => by
    rw [List.nodup_cons] at n ⊢
    refine ⟨fun hx => ?_, made_nodup t n.2⟩
    have key : ∀ {xs : List Str} {cs : List Nat}, Paired Made xs cs → x ∈ xs → c ∈ cs := by
      intro xs cs r
      induction r with
      | nil => exact fun z => nomatch z
      | @cons y d ys ds hy _ ih =>
        intro z
        rcases List.mem_cons.mp z with e | z
        · obtain ⟨w, e1, _⟩ := h
          obtain ⟨w2, e2, _⟩ := hy
          have q : (w ++ (⟨#[c]⟩ : Str)).cps.toList.getLast? = (w2 ++ (⟨#[d]⟩ : Str)).cps.toList.getLast? := by rw [← e1, ← e2, e]
          rw [app_cps, app_cps, Array.toList_append, Array.toList_append] at q
          have q2 : some c = some d := by
            have l1 : (w.cps.toList ++ [c]).getLast? = some c := List.getLast?_concat
            have l2 : (w2.cps.toList ++ [d]).getLast? = some d := List.getLast?_concat
            rw [← l1, ← l2]
            exact q
          rw [Option.some.inj q2]
          exact List.mem_cons_self
        · exact List.mem_cons_of_mem _ (ih z)
    exact n.1 (key t hx)
/-- so many words -/
structure Words (xs : List Str) (m : Nat) : Prop where
  pr : Paired Made xs (lastsC.take m)
theorem Words.nd {xs : List Str} {m : Nat} (h : Words xs m) : xs.Nodup := made_nodup h.pr (List.Nodup.sublist (List.take_sublist _ _) (by decide))
theorem Words.nm {xs : List Str} {m : Nat} (h : Words xs m) : ∀ x ∈ xs, nameS x = true := by
  have key : ∀ {xs : List Str} {cs : List Nat}, Paired Made xs cs → (∀ c ∈ cs, letter c = true) → ∀ x ∈ xs, nameS x = true := by
    intro xs cs r
    induction r with
    | nil => exact fun _ x z => nomatch z
    | @cons y d ys ds hy _ ih =>
      intro hc x z
      rcases List.mem_cons.mp z with e | z
      · rw [e]
        exact made_name hy (hc d List.mem_cons_self)
      · exact ih (fun c hcm => hc c (List.mem_cons_of_mem _ hcm)) x z
  refine key h.pr (fun c hc => ?_)
  have hm : c ∈ lastsC := List.mem_of_mem_take hc
  have all : ∀ c ∈ lastsC, letter c = true := by decide +kernel
  exact all c hm
theorem Words.len {xs : List Str} {m : Nat} (h : Words xs m) (hm : m ≤ 7) : xs.length = m := by
  have q := h.pr.length
  rw [List.length_take] at q
  have e6 : lastsC.length = 7 := rfl
  omega
theorem cut_from (xs : List V) (k : Nat) (h : k ≤ xs.length) : cutV xs (some (k : Int)) none = xs.drop k := by
  unfold cutV
  rw [HT.sIx_nat, HT.sIx_none, Nat.min_eq_left h]
  exact List.take_of_length_le (by rw [List.length_drop]; exact Nat.le_refl _)
theorem cut_to (xs : List V) (k : Nat) : cutV xs none (some (k : Int)) = xs.take k := by
  unfold cutV
  rw [HT.sIx_nat, HT.sIx_none, Nat.sub_zero, List.drop_zero]
  by_cases h : k ≤ xs.length
  · rw [Nat.min_eq_left h]
  · rw [Nat.min_eq_right (by omega), List.take_of_length_le (Nat.le_refl _), List.take_of_length_le (by omega)]
theorem cutS_to (z : Str) (k : Nat) : (cutS z none (some (k : Int))).cps.toList = z.cps.toList.take k := by
  unfold cutS
  rw [HT.sIx_nat, HT.sIx_none, Nat.sub_zero, List.drop_zero]
  show z.cps.toList.take (min k z.length) = _
  have hz : z.length = z.cps.toList.length := by first | rfl | exact Array.length_toList.symm
  by_cases h : k ≤ z.length
  · rw [Nat.min_eq_left h]
  · rw [Nat.min_eq_right (by omega), List.take_of_length_le (by omega), List.take_of_length_le (by omega)]
def spWords : Sp := fun vs H Q _ => ∃ (p : Addr) (m n : Nat), vs = [.ref p, .int (m : Int)] ∧ SrcAt H p n ∧ n ≤ 10000 ∧ m ≤ 7 ∧
  ∀ (l : Addr) (xs : List Str) (H' : Hp), xs.length = m → Words xs m → H l = none → H' l = some (.lst (xs.map V.str)) → SrcAt H' p (n + 70) → Off p H H' → Q (.ref l) H'
def menuI : List V := [.int 0, .int 1, .int 3, .int 7]
section
variable {P : Program} {w : World} {K : PySem.W.Frag} {mg : Str → Option Value} {base : Heap}
abbrev nmN : List Str := ["_law_state_here", "_law_many", "_law_found", "_law_last", "_law_word", "_law_k"]
theorem scWords : FnScope nmN ["_law_state_here", "_law_many"] (defScope sWords) := ⟨rfl, rfl, rfl, by decide +kernel, rfl, by decide +kernel, by decide +kernel⟩
theorem ok_words {f fN : Addr} {fd fdN : FuncData} (F : Fun K "_law_words" "_law_words" sWords f fd)
    (GN : FnOk P w K mg base CX0 1 fN fdN ["_law_state_here", "_law_many"] spPick) (kN : PySem.W.keepIn K (.ref fN) = true) (bN : Binds K fdN ["_law_state_here", "_law_many"] []) (gN : mg "_law_pick" = some (.ref fN)) (mR : mg "range" = none) :
    FnOk P w K mg base CX0 2 f fd ["_law_state_here", "_law_many"] spWords := by
  refine F.ok scWords (fun vs H Q E h => ?_) (fun cdv A outer s H vs Q E hr h => ?_)
  · obtain ⟨p, m, n, rfl, _⟩ := h
    rfl
  · obtain ⟨p, m, n, rfl, hp, hn, hm, k⟩ := h
    refine ⟨_, (pss_cons (ps_set (i := 2) scWords.nd rfl (Or.inl rfl) (pe_lst pa_nil))
      (pss_cons (ps_for PassesOwn.never rfl (pi_str (pe_slice sl_str pe_str po_none (po_some (pv 1)))) (pg_name (i := 3) scWords.nd rfl (Or.inl rfl))
        (pss_cons (ps_set (i := 4) scWords.nd rfl (Or.inl rfl) pe_str)
        (pss_cons (ps_for PassesOwn.never rfl (pi_range1 (by rfl) mR (pa_cons (pe_ix ix_list (pe_lst (pa_cons pe_int (pa_cons pe_int (pa_cons pe_int (pa_cons pe_int pa_nil))))) (pe_call GN hr (by rfl) gN kN bN .nil pass0 (pa_cons (pv 0) (pa_cons pe_int pa_nil))) (fun _ _ => rfl)) pa_nil)) (pg_name (i := 5) scWords.nd rfl (Or.inl rfl))
          (pss_one (ps_set (i := 4) scWords.nd rfl (Or.inl rfl) (pe_op op_add_str (pv 4) (pe_item_str pe_str (pe_call GN hr (by rfl) gN kN bN .nil pass0 (pa_cons (pv 0) (pa_cons pe_int pa_nil))) (fun _ _ => rfl))))))
        (pss_one (ps_expr (pe_bm PySem.F.plainAttrs_list PySem.F.slot_list_append PySem.F.type_list_append mt_append (pv 2) (pa_cons (pe_op op_add_str (pv 4) (pv 3)) pa_nil)))))))
      (pss_one (ps_ret (pv 2))))), ?_⟩
    refine ⟨Nat.zero_le _, fun l nl => ?_⟩
    have t1 := same_new (o := .lst []) nl
    have hl1 : upd H l (.lst []) l = some (.lst []) := upd_same
    have hp3 := hp.same t1
    have nlp := hp.ne nl
    generalize upd H l (.lst []) = H3 at t1 hl1 hp3 ⊢
    refine ⟨_, rfl, (m : Int), rfl, "sortend", rfl, by decide +kernel, _, rfl, ?_⟩
    have oC : Off p H H3 := Same.off t1
    have hz := cutS_to "sortend" m
    have hzl : (cutS "sortend" none (some (m : Int))).cps.size = m := by
      rw [← Array.length_toList, hz, List.length_take]
      show min m 7 = m
      omega
    refine for_it (walk_str (z := cutS "sortend" none (some (m : Int)))) (fun i σ H' => ∃ y5 y6 y7 xs, σ = [some (.ref p), some (.int (m : Int)), some (.ref l), y5, y6, y7] ∧ Off p H H' ∧ SrcAt H' p (n + 10 * i) ∧ H' l = some (.lst (xs.map V.str)) ∧ Paired Made xs (lastsC.take i))
      ⟨none, none, none, [], rfl, oC, hp3, hl1, .nil⟩ (fun _ _ _ _ _ => trivial) ?_ ?_
    · rintro i x σ H4 H5 hi ⟨y5, y6, y7, xs, rfl, o4, hp4, hl4, pr⟩ ⟨rfl, c, hc, rfl⟩
      rw [hzl] at hi
      have hc2 : lastsC[i]? = some c := by
        have q := hc
        rw [← Array.getElem?_toList, hz, List.getElem?_take_of_lt hi] at q
        exact q
      refine ⟨by show 4 ≤ sizeLine; decide, fun u nu => ?_⟩
      have t5 := same_new (o := .lst menuI) nu
      have hu : upd H5 u (.lst menuI) u = some (.lst menuI) := upd_same
      have nup := hp4.ne nu
      refine ⟨_, rfl, p, 4, n + 10 * i, rfl, hp4.same t5, by decide, by decide, by omega, fun r5 H6 r50 r51 hp6 o6 => ?_⟩
      have hu6 := o6 _ _ hu nup
      obtain ⟨r5, rfl⟩ := Int.eq_ofNat_of_zero_le r50
      obtain ⟨r6, hr6, hr61⟩ : ∃ r6 : Nat, menuI[r5]? = some (.int (r6 : Int)) ∧ r6 ≤ 7 := by
        have h5 : r5 < 4 := by omega
        match r5, h5 with
        | 0, _ => exact ⟨0, rfl, by decide⟩
        | 1, _ => exact ⟨1, rfl, by decide⟩
        | 2, _ => exact ⟨3, rfl, by decide⟩
        | 3, _ => exact ⟨7, rfl, by decide⟩
      refine ⟨u, _, _, _, rfl, rfl, SqL.of hu6, at_of rfl hr6, ?_⟩
      refine ⟨(r6 : Int), rfl, by omega, by omega, ?_⟩
      have oD := (o4.trans (Same.off t5)).trans o6
      have hl6 : H6 l = some (.lst (xs.map V.str)) := o6 _ _ (t5 _ _ hl4) nlp
      have er : (r6 : Int).toNat = r6 := Int.toNat_natCast r6
      rw [er]
      refine for_range (n := r6) (fun j σ H' => ∃ y7 wd, σ = [some (.ref p), some (.int (m : Int)), some (.ref l), some (.str ⟨#[c]⟩), some (.str wd), y7] ∧ Off p H H' ∧ SrcAt H' p (n + 10 * i + 1 + j) ∧ H' l = some (.lst (xs.map V.str)) ∧ wd.length ≤ j ∧ lettersB wd = true)
        ⟨y7, "", rfl, oD, hp6, hl6, Nat.le_refl _, rfl⟩ ?_ ?_
      · rintro j σ H7 hj ⟨y7', wd, rfl, o7, hp7, hl7, wl, wL⟩
        refine ⟨_, rfl, _, rfl, p, 26, _, rfl, hp7, by decide, by decide, by omega, fun r8 H8 r80 r81 hp8 o8 => ?_⟩
        obtain ⟨b, rfl⟩ := Int.eq_ofNat_of_zero_le r80
        have hb : b < 26 := by omega
        have alph : ∀ b, b < 26 → ∃ d, LET.cps[b]? = some d ∧ letter d = true := by
          intro b hb
          have hb2 : b < LET.cps.toList.length := by
            have e : LET.cps.toList.length = 26 := by decide +kernel
            omega
          refine ⟨LET.cps.toList[b], ?_, ?_⟩
          · rw [← Array.getElem?_toList, List.getElem?_eq_getElem hb2]
          · exact decide_eq_true (List.getElem_mem hb2)
        obtain ⟨d, hd, dl⟩ := alph b hb
        refine ⟨LET, _, d, rfl, rfl, by omega, by omega, ?_, ?_, ?_⟩
        · have e : LET.length = 26 := by decide +kernel
          show (b : Int) < (LET.length : Int)
          rw [e]
          omega
        · rw [Int.toNat_natCast]
          exact hd
        · have one1 : ((⟨#[d]⟩ : Str)).length = 1 := rfl
          refine ⟨wd, ⟨#[d]⟩, rfl, rfl, ?_, ?_⟩
          · rw [one1, sizeLine_eq]
            omega
          · refine ⟨_, wd ++ ⟨#[d]⟩, rfl, o7.trans o8, hp8.mono (by omega), o8 _ _ hl7 nlp, ?_, ?_⟩
            · rw [app_len, one1]
              omega
            · refine letters_app wL ?_
              show (([d] : List Nat).all letter) = true
              rw [List.all_cons, dl]
              rfl
      · rintro σ H7 ⟨y7', wd, rfl, o7, hp7, hl7, wl, wL⟩
        have one1 : ((⟨#[c]⟩ : Str)).length = 1 := rfl
        refine ⟨_, rfl, .inl ⟨rfl, _, SqL.of hl7⟩, _, rfl, _, rfl, wd, ⟨#[c]⟩, rfl, rfl, ?_, ?_⟩
        · rw [one1, sizeLine_eq]
          omega
        · have prl : xs.length = i := by
            have q := pr.length
            rw [List.length_take] at q
            have e6 : lastsC.length = 7 := rfl
            omega
          refine ⟨l, _, _, rfl, rfl, hl7, ?_, ?_⟩
          · rw [List.length_map]
            exact small1000 (by omega)
          · refine ⟨_, _, _, xs ++ [wd ++ ⟨#[c]⟩], rfl, ?_, ?_, ?_, ?_⟩
            · intro b o e nb
              have nbl : b ≠ l := fun z => by
                rw [z, nl] at e
                cases e
              rw [upd_ne nbl]
              exact o7 b o e nb
            · obtain ⟨x1, x2, x3, e1, rest⟩ := hp7
              exact SrcAt.mono ⟨x1, x2, x3, by rw [upd_ne nlp.symm]; exact e1, rest⟩ (by omega)
            · rw [upd_same, List.map_append]
              rfl
            · rw [List.take_add_one, hc2]
              exact pr.snoc ⟨wd, rfl, by omega, wL⟩
    · rintro σ H4 ⟨y5, y6, y7, xs, rfl, o4, hp4, hl4, pr⟩
      rw [hzl] at hp4 pr
      have wx : Words xs m := ⟨pr⟩
      exact ⟨_, rfl, k l xs H4 (wx.len (by omega)) wx nl hl4 (hp4.mono (by omega)) o4⟩
end
end Toy
set_option Elab.async false
set_option linter.all false
set_option maxRecDepth 100000
set_option maxHeartbeats 2000000
namespace L2
open PySem PySem.Spec PyProof.Rows Toy
section
variable {X : Cx}
theorem strs_are : ∀ {xs : List Str} {us : List Value}, Vals (xs.map V.str) us → StrsAre us xs
  | [], _, .nil => .nil
  | x :: xs, _, .cons r t => by
    obtain ⟨k, rfl⟩ := r
    exact .cons x k (strs_are t)
theorem isStr_count (k : Str) : ∀ {vs : List Value} {ys : List Str}, StrsAre vs ys → vs.countP (isStrOf k) = ys.count k
  | _, _, .nil => rfl
  | _, _, .cons n u h => by
    rw [List.countP_cons, List.count_cons, isStr_count k h]
    rfl
/-- xs.count(k), xs a list of texts -/
def rCntS (K : PySem.W.Frag) : V → List V → Hp → VK → Prop := fun x xs H Q => ∃ (p : Addr) (ns : List Str) (k : Str), x = .ref p ∧ xs = [.str k] ∧ SqL K H p (ns.map V.str) ∧ Q (.int (ns.count k : Nat)) H
theorem mt_lcountS : MtR X "list.count" (rCntS X.K) := by
  intro pins s σ H x xs v us Q I rx rxs h
  obtain ⟨p, ns, k, rfl, rfl, hs, q⟩ := h
  cases rx
  obtain ⟨u, rfl, ru⟩ := rxs.one
  obtain ⟨t, rfl⟩ := ru
  obtain ⟨its, rv, ⟨⟨cls, dd, data, sl⟩, n, ho, hc, hdn, hd⟩, hlen⟩ := I.list hs
  simp only at hc hd
  subst hc hd
  have hi := strs_are rv
  refine call_meets PySem.F.slot_list_count ⟨_, ho, rfl⟩ PySem.F.entry_list_count (PySem.F.args_list_count_2 _ _)
    (SeqAt.list_countAt p its.toArray n dd sl (.str k t) (isStrOf k)) ⟨ho, fun y hy => (eq_isStrOf k t hi y (by simpa using hy)).at _ _, ?_⟩
  have ec : its.toArray.toList.countP (isStrOf k) = ns.count k := isStr_count k hi
  refine ⟨.int (ns.count k : Nat), H, I.tok _, ⟨s.toks, ?_⟩, q⟩
  show Value.int ((its.toArray.toList.countP (isStrOf k) : Nat) : Int) s.toks = Value.int ((ns.count k : Nat) : Int) s.toks
  rw [ec]
/-- t.count(k), t a tuple of texts -/
def rCntT (K : PySem.W.Frag) : V → List V → Hp → VK → Prop := fun x xs H Q => ∃ (p : Addr) (ns : List Str) (k : Str), x = .ref p ∧ xs = [.str k] ∧ SqT K H p (ns.map V.str) ∧ Q (.int (ns.count k : Nat)) H
theorem mt_tcountS : MtR X "tuple.count" (rCntT X.K) := by
  intro pins s σ H x xs v us Q I rx rxs h
  obtain ⟨p, ns, k, rfl, rfl, hs, q⟩ := h
  cases rx
  obtain ⟨u, rfl, ru⟩ := rxs.one
  obtain ⟨t, rfl⟩ := ru
  obtain ⟨its, rv, ht, hlen⟩ := I.tuple hs
  obtain ⟨⟨cls, dd, data, sl⟩, ho, hc, n, hd⟩ := id ht
  simp only at hc hd
  subst hc hd
  have hi := strs_are rv
  refine call_meets PySem.F.slot_tuple_count ⟨_, ho, rfl⟩ PySem.F.entry_tuple_count (PySem.F.args_tuple_count_2 _ _)
    (SeqAt.tuple_countAt p its.toArray n dd sl (.str k t) (isStrOf k)) ⟨ho, fun y hy => (eq_isStrOf k t hi y (by simpa using hy)).at _ _, ?_⟩
  have ec : its.toArray.toList.countP (isStrOf k) = ns.count k := isStr_count k hi
  refine ⟨.int (ns.count k : Nat), H, I.tok _, ⟨s.toks, ?_⟩, q⟩
  show Value.int ((its.toArray.toList.countP (isStrOf k) : Nat) : Int) s.toks = Value.int ((ns.count k : Nat) : Int) s.toks
  rw [ec]
/-- factorial(n) -/
def rFac : List V → Hp → VK → Prop := fun vs H Q => ∃ n : Nat, vs = [.int (n : Int)] ∧ n ≤ 1000 ∧ Q (.int ((Builtin.Math.factorialNat n : Nat) : Int)) H
theorem cr_fac : CallR X (.builtin "math.factorial") rFac := by
  intro pins s σ H vs us Q I r h
  obtain ⟨a, rfl, ha, q⟩ := h
  obtain ⟨u, rfl, ru⟩ := r.one
  obtain ⟨t, rfl⟩ := ru
  exact PySem.W.mc_factorial (by omega) (by omega) fun _ => ⟨.int _, H, I.tok _, ⟨_, rfl⟩, q⟩
end
end L2
set_option Elab.async false
set_option linter.all false
set_option maxRecDepth 100000
set_option maxHeartbeats 2000000
namespace PySem
open Sem (wp)
open AutoSeq1 (wpAny_loadPart')
/-! ### enumerate of a tuple -/
theorem toy_enum_newT (l : Addr) (items : Array Value) (n : Nat) (dct : Option Addr) (sl : Array (Option Value)) :
    Meets (Builtin.«enumerate.__new__» ⟨[.type "enumerate", .ref l], []⟩) (fun _ R s => s.heap.get? l = some { cls := .type "tuple", dict := dct, data := .seq items n, slots := sl } ∧
      R (.ok (.ret (.ref (s.heap.push { cls := .type "tuple_iterator", data := .fields #[.ref l, .int 0 0] }).objs.size)))
        { s with heap := (s.heap.push { cls := .type "tuple_iterator", data := .fields #[.ref l, .int 0 0] }).push { cls := .type "enumerate", data := .fields #[.none, .bool false, .ref s.heap.objs.size, rawInt 0, .none, .none] } }) :=
  .of_wp fun prog w A R s h => by
    obtain ⟨hp, g, d, tk, os⟩ := s; obtain ⟨hl, h⟩ := h
    have hsub := sub_enumerate
    have hL : Heap.IsTuple (Shared.heap ⟨hp, g, d, tk, os⟩) l items := ⟨_, hl, rfl, n, rfl⟩
    wp_walk using wpAny_loadPart' hl
    refine wpAny_stack_any fun st => wpAny_pure ?_
    split
    · rename_i c _ _ _ _ _
      cases (c == Value.type "enumerate")
      · wp_walk using wpAny_loadPart' hl, wpAny_pyIter_tuple hL
        exact ⟨_, rfl, h⟩
      · wp_walk using wpAny_loadPart' hl, wpAny_pyIter_tuple hL
        exact ⟨_, rfl, h⟩
    · wp_walk using wpAny_loadPart' hl, wpAny_pyIter_tuple hL
      exact ⟨_, rfl, h⟩
section
variable {prog : Program} {w : World} {A : Around} {E : Value → Shared → Prop} {s : Shared}
theorem toy_call_enumT {l : Addr} {items : Array Value} {Q : Value → Shared → Prop} (hL : s.heap.IsTuple l items)
    (h : ∀ h', IsEnum h' (s.heap.objs.size + 1) s.heap.objs.size 0 .none → h'.IsTupleIter s.heap.objs.size l 0 → h'.objs.size = s.heap.objs.size + 2 →
      (∀ b o, s.heap.get? b = some o → h'.get? b = some o) → Q (.ref (s.heap.objs.size + 1)) { s with heap := h' }) :
    wpAny (model prog w) A (call (.type "enumerate") [.ref l]) Q E s := by
  obtain ⟨⟨c, dct, dt, sl⟩, hl, hc, n, hd⟩ := hL
  replace hc : c = .type "tuple" := hc
  replace hd : dt = .seq items n := hd
  subst hc hd
  refine callType_new F.called_enumerate (by decide) (F.typeCall_enumerate_1 _) (F.newCall_enumerate_1 _) (fun obj => F.args_object_init_2 obj _) F.entry_enumerate_new
    (toy_enum_newT l items n dct sl) ⟨hl, ?_⟩
  have hz : (s.heap.push { cls := .type "tuple_iterator", data := .fields #[.ref l, .int 0 0] }).objs.size = s.heap.objs.size + 1 := Heap.size_push ..
  show _ ∧ _
  rw [hz]
  have he : IsEnum ((s.heap.push { cls := .type "tuple_iterator", data := .fields #[.ref l, .int 0 0] }).push
      { cls := .type "enumerate", data := .fields #[.none, .bool false, .ref s.heap.objs.size, rawInt 0, .none, .none] }) (s.heap.objs.size + 1) s.heap.objs.size 0 .none := by
    have := Heap.get?_push_size (s.heap.push { cls := .type "tuple_iterator", data := .fields #[.ref l, .int 0 0] })
      (o := { cls := .type "enumerate", data := .fields #[.none, .bool false, .ref s.heap.objs.size, rawInt 0, .none, .none] }) rfl
    rw [hz] at this; exact this
  refine ⟨⟨_, he, rfl⟩, h _ he ⟨_, Heap.get?_push_of_some _ (Heap.get?_push_size _ rfl), rfl, rfl⟩ (by rw [Heap.size_push, hz]) fun b o x => Heap.get?_push_of_some _ (Heap.get?_push_of_some _ x)⟩
theorem toy_enum_endT {e it l : Addr} {i : Nat} {c : Int} {items : Array Value} {old : Value} {Q : Option Value → Shared → Prop} (hh : A.handled = none)
    (he : IsEnum s.heap e it c old) (hit : s.heap.IsTupleIter it l i) (hl : s.heap.IsTuple l items) (hx : items[i]? = none)
    (hQ : ∀ h', Heap.ExtBut it s.heap h' → Q none { s with heap := h' }) : wpAny (model prog w) A (pyNext (.ref e)) Q E s := by
  have hT : s.TypeIs (.ref e) "enumerate" := ⟨_, he, rfl⟩
  unfold pyNext
  refine wpAny_bind (wpAny_attempt (wpAny_callSpecial?_slot (name := Str.ofString "__next__") hT F.slot_enumerate_next
    (wpAny_call_entry F.slot_enumerate_next hT F.entry_enumerate_next ?_ (F.args_enumerate_next_1 _))))
  show wpAny _ _ (field (.ref e) 2 >>= _) _ _ _
  refine wpAny_bind (wpAny_field he rfl (x := .ref it) rfl ?_)
  refine wpAny_bind (wpAny_nextOf_tuple_end hh hit hl hx fun h' x he' hx' => ?_)
  obtain ⟨o, ho, hc⟩ := hx'
  refine wpAny_bind (wpAny_isInstance (T := "StopIteration") (b := true) ⟨o, ho, hc⟩ isSubtype_stop ?_)
  exact wpAny_pure (hQ _ he')
end
end PySem
namespace L2
open PySem PySem.Spec PyProof.Rows Toy
/-- the tuple at a as it stands at each turn, each item in a new pair -/
def Itet (K : PySem.W.Frag) (a : Addr) : It :=
  ⟨fun i H => ∃ (xs : List V) (x : V), SqT K H a xs ∧ xs[i]? = some x, fun i H v H' => ∃ T x, v = .ref T ∧ H T = none ∧ H' = upd H T (.tup [.int (i : Nat), x]) ∧ ∀ xs, SqT K H a xs → xs[i]? = some x, fun i H => ∃ xs : List V, SqT K H a xs ∧ xs.length ≤ i⟩
theorem tuple_one {h : Heap} {a : Addr} {xs ys : Array Value} (p : IsTup h a xs) (q : IsTup h a ys) : xs = ys := by
  obtain ⟨o, h1, _, n, h2⟩ := p
  obtain ⟨o', h1', _, n', h2'⟩ := q
  rw [h1] at h1'
  cases h1'
  rw [h2] at h2'
  cases h2'
  rfl
theorem turn_enumT {P : Program} {w : World} {K : PySem.W.Frag} {elts : List Expr} {kk : Nat} {tpos : Pos} (a e it : Addr) :
    Turn P w K (.Tuple elts kk tpos) (Itet K a) [e, it] e (fun i h => (∃ old, IsEnum h e it ((i : Nat) : Int) old) ∧ h.IsTupleIter it a i ∧ e ≠ it ∧ a < it) where
  mem := by simp
  obj := fun i h st b hb => by
    obtain ⟨⟨old, he⟩, ⟨o, ho, hc, hd⟩, _⟩ := st
    have e' : b = e ∨ b = it := by simpa using hb
    rcases e' with z | z
    · rw [z]; exact ⟨_, he, fun v q => nomatch q⟩
    · rw [z]; exact ⟨o, ho, fun v q => by rw [hd] at q; cases q⟩
  keep := fun i h h' st k => let ⟨⟨old, he⟩, hi, hne⟩ := st; ⟨⟨old, k e (by simp) _ he⟩, hi.at fun o q => k it (by simp) o q, hne⟩
  item := by
    intro X hP hw hK hc i pins s σ H E I hf st hg
    subst hP hw hK
    obtain ⟨⟨old, he⟩, hit, hne, hlt⟩ := st
    obtain ⟨xs, x, hq, hx⟩ := hg
    obtain ⟨its, rv, p, hz⟩ := I.tuple hq
    obtain ⟨u, hu, ru⟩ := rv.get hx
    have hel : e < s.heap.objs.size := Heap.lt_size he
    have hil : it < s.heap.objs.size := by obtain ⟨_, q, _⟩ := hit; exact Heap.lt_size q
    have hae : a ≠ e := fun z => by
      obtain ⟨o, h1, h2, n, h3⟩ := id p
      rw [z] at h1
      have h4 : s.heap.get? e = some _ := he
      rw [h1] at h4
      cases h4
      injection h2 with q
      exact absurd q (by decide)
    have hidx : i < its.toArray.size := by
      have := (List.getElem?_eq_some_iff.mp hu).1
      simpa using this
    have hh : (X.A.in1).handled = none := (I.ok.hd hc)
    refine wpAny_pyNext_enum_itemD (i := i) (Draws.tuple hh it a (Nat.ne_of_lt hlt) its.toArray) he ⟨hit, p⟩ hidx hne (by simpa using ⟨hne, fun z => hae z.symm⟩) fun y h' tk hy ho st' hT hsz hk => ?_
    have eyu : y = u := by
      have h1 : its.toArray[i]? = some y := hy
      have h2 : its.toArray[i]? = some u := by simpa using hu
      rw [h1] at h2
      exact Option.some.inj h2
    subst eyu
    refine ⟨_, rfl, wpAny_letOwnedTupleGo_enum (s := { s with heap := h', toks := tk + 1 }) ho fun h'' he' sb => ?_⟩
    have hT2 : h''.get? s.heap.objs.size = some { cls := .type "tuple", data := .seq #[.int i tk, y] } := (sb.2 _ (Nat.ne_of_gt hel)).trans hT
    have new : ObjOk X.prog X.w (upd H s.heap.objs.size (.tup [.int (i : Nat), x])) h'' s.heap.objs.size (.tup [.int (i : Nat), x]) :=
      ⟨by show 2 ≤ sizeLine; decide, [.int i tk, y], .cons ⟨_, rfl⟩ (.cons ru .nil), ⟨_, hT2, rfl, _, rfl⟩⟩
    have I1 : Inv X pins σ (upd H s.heap.objs.size (.tup [.int (i : Nat), x])) { s with heap := h'', toks := tk + 1 } :=
      I.turnedNew (ch := [e, it]) (fun b ob hb q => (sb.2 b (fun z => hb (by simp [z]))).trans (hk b ob (fun z => hb (by simp [z])) (fun z => hb (by simp [z])) q)) hf (Nat.le_refl _) new
    refine ⟨.ref s.heap.objs.size, _, I1, rfl, ⟨_, x, rfl, I.hok.fresh (Nat.le_refl _), rfl, fun ys hy' => ?_⟩, ⟨⟨y, ?_⟩, st'.1.at fun o q => (sb.2 it (Ne.symm hne)).trans q, hne, hlt⟩, fun b hb => ?_⟩
    · obtain ⟨its2, rv2, p2, _⟩ := I.tuple hy'
      have e2 := tuple_one p p2
      have e3 : its = its2 := by simpa using congrArg Array.toList e2
      subst e3
      have e4 : xs = ys := rv.inj rv2
      rw [← e4]
      exact hx
    · have e1 : ((i + 1 : Nat) : Int) = (i : Int) + 1 := by omega
      rw [e1]; exact he'
    · have hb' : b < s.heap.objs.size := by
        have e' : b = e ∨ b = it := by simpa using hb
        rcases e' with z | z
        · rw [z]; exact hel
        · rw [z]; exact hil
      rw [upd_ne (Nat.ne_of_lt hb')]
      exact (hf b hb).1
  done := by
    intro X hP hw hK hc i pins s σ H E I hf st hg
    subst hP hw hK
    obtain ⟨⟨old, he⟩, hit, hne, hlt⟩ := st
    obtain ⟨xs, hq, hx⟩ := hg
    obtain ⟨its, rv, p, hz⟩ := I.tuple hq
    obtain ⟨f0, f1, f2, f3, f4, f5⟩ := hf it (by simp)
    have hl := rv.length
    exact toy_enum_endT (I.ok.hd hc) he hit p (by simp; omega) fun h' eb => ⟨rfl, I.turned (t' := s.toks) (fun b o hb q => eb b o hb q) f0 f1 f3 f4 f5⟩
  self := fun A i s Q E st h => let ⟨⟨_, he⟩, _⟩ := st; wpAny_pyIter_enum he h
def iEnumT (K : PySem.W.Frag) (ta : TA) : TI := fun σ H R => ta σ H fun vs H1 => ∃ a xs, vs = [.ref a] ∧ SqT K H1 a xs ∧ R (Itet K a) H1
theorem pi_enumT {X : Cx} {e : Expr} {ta : TA} {p pos tpos : Pos} {elts : List Expr} {kk : Nat} (hg : Gl X "enumerate") (hm : X.mg "enumerate" = none) (ha : PA X [e] ta) (hs : starEach [e] X.env = [(false, eval e X.env)] := by rfl) :
    PI X (.Tuple elts kk tpos) (.Call (.Name "enumerate" p) [e] [] pos) (iEnumT X.K ta) := by
  refine ⟨fun pins s σ H R I h => ?_⟩
  refine Call_ (ld_blt I hg hm boot_enumerate (PyProof.Rows.callWith_type1 (thn (ha.run pos pins s σ H _ I h) fun us s1 ⟨vs, H1, I1, r1, q1⟩ => ?_) hs rfl))
  obtain ⟨a, xs, ex, hq, q⟩ := q1
  subst ex
  cases r1 with
  | cons r rr =>
    cases rr
    cases r
    obtain ⟨its, rv, p', hz⟩ := I1.tuple hq
    have hlt : a < s1.heap.objs.size := by
      obtain ⟨o, h1, _⟩ := id p'
      exact Heap.lt_size h1
    refine toy_call_enumT p' fun h' he hit hsz hk => wpAny_pyIter_enum he ?_
    have I2 : Inv X pins σ H1 { s1 with heap := h' } := I1.kept (t' := s1.toks) hk
    refine ⟨s1.heap.objs.size + 1, [s1.heap.objs.size + 1, s1.heap.objs.size], _, _, H1, rfl, I2, turn_enumT a (s1.heap.objs.size + 1) s1.heap.objs.size, ⟨⟨.none, he⟩, hit, Nat.succ_ne_self _, hlt⟩, fun b hb => ?_, q⟩
    have e' : b = s1.heap.objs.size + 1 ∨ b = s1.heap.objs.size := by simpa using hb
    have hle : s1.heap.objs.size ≤ b := by
      rcases e' with z | z
      · rw [z]; exact Nat.le_add_right _ _
      · rw [z]; exact Nat.le_refl _
    exact I1.fpOk hle (I1.hok.fresh hle)
theorem walk_enumT {K : PySem.W.Frag} {a : Addr} {xs : List V} : Walk (Itet K a) xs.length (fun H => SqT K H a xs) (YPair (fun i => some (.int (i : Nat))) (fun i => xs[i]?)) := by
  refine ⟨fun i _ hi q => ⟨xs, xs[i], q, by simp [hi]⟩, fun _ q => ⟨xs, q, Nat.le_refl _⟩, fun i H v H' _ q y => ?_⟩
  obtain ⟨T, x, h1, h2, h3, h4⟩ := y
  exact ⟨T, .int (i : Nat), x, h1, h2, h3, rfl, h4 xs q⟩
end L2
set_option Elab.async false
set_option linter.all false
set_option maxRecDepth 100000
set_option maxHeartbeats 2000000
namespace L2
open PySem PySem.Spec PyProof.Rows Toy HT
/-! ### tuples whose object is known to be plain: their methods can be called -/
/-- a tuple of these at a, without a dict of its own -/
def PlT (H : Hp) (a : Addr) (xs : List V) : Prop := ∃ o : Obj, H a = some (.frz o (.tup xs)) ∧ o.dict = none ∧ o.cls = .type "tuple"
theorem PlT.same {H H' : Hp} {a : Addr} {xs : List V} (h : PlT H a xs) (s : Same H H') : PlT H' a xs := let ⟨o, e, d, c⟩ := h; ⟨o, s _ _ e, d, c⟩
theorem PlT.rd {H : Hp} {a : Addr} {xs : List V} (h : PlT H a xs) : Rd H a (.tup xs) := let ⟨o, e, _, _⟩ := h; .inr ⟨o, e⟩
theorem PlT.sq {K : PySem.W.Frag} {H : Hp} {a : Addr} {xs : List V} (h : PlT H a xs) : SqT K H a xs := .inl h.rd
theorem PlT.ne {H : Hp} {a q : Addr} {xs : List V} (h : PlT H a xs) (n : H q = none) : a ≠ q := let ⟨_, e, _, _⟩ := h; ne_of_none e n
section
variable {X : Cx}
/-- tuple(xs), of a list, or t itself -/
theorem call_tuple_ofP : CallR X (.type "tuple") (fun xs H Q => ∃ p ys, xs = [.ref p] ∧ ((SqL X.K H p ys ∧ ∀ l H', H l = none → Same H H' → PlT H' l ys → (∀ b, b ≠ l → H' b = H b) → Q (.ref l) H') ∨ (SqT X.K H p ys ∧ Q (.ref p) H))) := by
  intro pins s σ H xs us Q I r h
  obtain ⟨p, ys, rfl, h⟩ := h
  obtain ⟨u, rfl, rx⟩ := vals1 r
  cases rx
  rcases h with ⟨hq, q⟩ | ⟨hq, q⟩
  · obtain ⟨its, r', pl, hz⟩ := I.list hq
    have hlen := r'.length
    refine call_tuple_list pl.isList (fun h' kp => ?_) (by simp only [List.size_toArray] <;> omega)
    have I1 : Inv X pins σ H { s with heap := h' } := I.kept (t' := s.toks) kp
    have hn := I1.hok.fresh (Nat.le_refl _)
    have I2 : Inv X pins σ (upd H h'.objs.size (.frz { cls := .type "tuple", data := .seq its.toArray } (.tup ys))) { s with heap := h'.push { cls := .type "tuple", data := .seq its.toArray } } :=
      I1.laid (t' := s.toks) (fun b o e => Heap.get?_push_of_some _ e) (Nat.le_refl _) (show ObjOk X.prog X.w _ _ _ (.frz _ (.tup ys)) from ⟨Heap.get?_push_size _ rfl, hz, its, r', IsTup.new _ _⟩)
    exact ⟨.ref h'.objs.size, _, I2, rfl, q _ _ hn (fun b x e => (upd_ne (ne_of_none e hn)).trans e) ⟨_, upd_same, rfl, rfl⟩ fun b nb => upd_ne nb⟩
  · obtain ⟨its, r', pl, hz⟩ := I.tuple hq
    exact call_tuple_same pl ⟨.ref p, H, I, rfl, q⟩
/-- t[lo:hi]: the whole of it is t itself -/
def rSlP (K : PySem.W.Frag) : V → Option Int → Option Int → Hp → VK → Prop := fun x lo hi H Q => ∃ a xs, x = .ref a ∧ SqT K H a xs ∧
  (HT.sIx xs.length 0 lo = 0 ∧ HT.sIx xs.length xs.length hi = xs.length → Q (.ref a) H) ∧ (¬ (HT.sIx xs.length 0 lo = 0 ∧ HT.sIx xs.length xs.length hi = xs.length) → ∀ p H', H p = none → Same H H' → PlT H' p (cutV xs lo hi) → Q (.ref p) H')
theorem sl_tupP : SlR X (rSlP X.K) := by
  intro pins s σ H x v vl vu lo hi sl Q I rx hs pl pu h
  obtain ⟨a, xs, rfl, hx, q1, q2⟩ := h
  cases rx
  obtain ⟨its, r, ht, hz⟩ := I.tuple hx
  have hlen : its.toArray.size = xs.length := by rw [List.size_toArray]; exact r.length.symm
  refine ⟨"tuple", _, PyProof.Rows.slot_tuple_getitem.lookup, ht.typeIs, ?_⟩
  by_cases hw : HT.sIx xs.length 0 lo = 0 ∧ HT.sIx xs.length xs.length hi = xs.length
  · exact getItem_tuple_whole ht hs pl pu (by rw [hlen]; exact hw) ⟨.ref a, H, I, rfl, q1 hw⟩
  · refine HT.getItem_tuple_cut ht hs pl pu (by rw [hlen]; exact hw) ?_ (by rw [hlen]; exact hz)
    rw [hlen]
    have hn := I.hok.fresh (Nat.le_refl s.heap.objs.size)
    generalize ho : ({ cls := .type "tuple", data := .seq ((its.toArray.toList.drop (HT.sIx xs.length 0 lo)).take (HT.sIx xs.length xs.length hi - HT.sIx xs.length 0 lo)).toArray } : Obj) = ob
    have hd : ob.dict = none := by rw [← ho]
    have hc : ob.cls = .type "tuple" := by rw [← ho]
    have hg : (s.heap.push ob).get? s.heap.objs.size = some ob := Heap.get?_push_size _ (by rw [← ho]; rfl)
    have new : ObjOk X.prog X.w (upd H s.heap.objs.size (.frz ob (.tup (cutV xs lo hi)))) (s.heap.push ob) s.heap.objs.size (.frz ob (.tup (cutV xs lo hi))) :=
      ⟨hg, Nat.le_trans (cutV_length xs lo hi) hz, _, (r.drop (HT.sIx xs.length 0 lo)).take (HT.sIx xs.length xs.length hi - HT.sIx xs.length 0 lo), by rw [← ho]; exact IsTup.new _ _⟩
    exact ⟨.ref s.heap.objs.size, _, I.laid (t' := s.toks) (o := .frz ob (.tup (cutV xs lo hi))) (fun b o' q => Heap.get?_push_of_some _ q) (Nat.le_refl _) new, rfl, q2 hw _ _ hn (fun b x e => (upd_ne (ne_of_none e hn)).trans e) ⟨_, upd_same, hd, hc⟩⟩
end
/-- the call of a plain tuple's method -/
def tBMT (r : V → List V → Hp → VK → Prop) (to : TE) (t : TA) : TE := fun σ H Q => to σ H fun x H1 => (∃ a xs, x = .ref a ∧ PlT H1 a xs) ∧ t σ H1 fun xs H2 => r x xs H2 Q
section
variable {X : Cx} {o e : Expr} {es : List Expr} {to : TE} {t : TA} {name : Str} {apos cpos : Pos} {id : String} {r : V → List V → Hp → VK → Prop}
theorem pe_bmT (slot : Slot "tuple" name id) (hty : typeOf (.builtin id) = pure (.type "method_descriptor")) (hm : MtR X id r) (ho : PE X o to) (ha : PA X (e :: es) t)
    (hbase : attributeBase o name X.env (eval o X.env) = eval o X.env := by rfl)
    (hfew : ((backTo cpos (starEach (e :: es) X.env)).all (fun x => !x.1) && (backToKw cpos (keywordEach [] X.env)).all (fun x => x.1.isSome)
      && decide ((e :: es).length + ([] : List Keyword).length + (if ([] : List Keyword).isEmpty then 0 else 1) < 30)) = true := by rfl)
    (hline : (apos.endLine == cpos.line) = true := by rfl) (hs : starEach (e :: es) X.env = (false, eval e X.env) :: starEach es X.env := by rfl) (hplain : (backTo cpos (starEach es X.env)).any (·.1) = false := by rfl) :
    PE X (.Call (.Attribute o name apos) (e :: es) [] cpos) (tBMT r to t) := by
  refine ⟨fun pins s σ H Q I h => ?_⟩
  refine wpAny_Call_method_late hbase hfew hline rfl (thn (ho.run pins s σ H _ I h) fun v s1 ⟨x, H1, I1, r1, ⟨a, xs, ex, ob, ea, ed, ec⟩, q1⟩ => ?_)
  subst ex
  cases r1
  have hg := (I1.hok a _ ea).1
  refine ⟨"tuple", id, PySem.F.plainAttrs_tuple, slot, hty, ⟨ob, hg, ec⟩, fun b e => ?_, ?_⟩
  · cases e
    exact ⟨ob, hg, ed⟩
  have hA := ha.run cpos pins s1 σ H1 _ I1 q1
  rw [hs] at hA ⊢
  refine Calls.callWith_builtin (by show (false || (backTo cpos (starEach es X.env)).any (·.1)) = false; rw [hplain] <;> rfl) (Calls.evalArgs_plain ?_)
  exact thn hA fun us s2 ⟨vs, H2, I2, r2, q2⟩ => hm pins s2 σ H2 (.ref a) vs (.ref a) us Q I2 rfl r2 q2
end
end L2
set_option Elab.async false
set_option linter.all false
set_option maxRecDepth 100000
set_option maxHeartbeats 4000000
namespace Toy
open PySem PySem.Spec PyProof.Rows L2
/-- a new object beside a source -/
theorem fresh {H : Hp} {p q : Addr} {n : Nat} {o : HO} (hp : SrcAt H p n) (e : H q = none) : Same (del H p) (del (upd H q o) p) ∧ del (upd H q o) p q = some o ∧ SrcAt (upd H q o) p n ∧ Off p H (upd H q o) := by
  have nq := hp.ne e
  have o1 : Off p H (upd H q o) := Same.off (same_new e)
  exact ⟨off_same o1, by rw [del_ne nq, upd_same], hp.same (same_new e), o1⟩
def rowT (r : Str × Str) : PyData := .tuple [.str r.1, .str r.2]
abbrev KRow := Str × List Str
def kindT (k : KRow) : PyData := .tuple [.str k.1, .tuple (k.2.map .str)]
theorem rowD_T (r : Str × Str) : rowD (rowT r) = (nameS r.1 && nameS r.2) := rfl
theorem rowOf_T (rows : Rows2) : (rows.map rowT).map rowOf = rows := by
  rw [List.map_map]
  exact List.map_id'' (fun r => rfl) rows
theorem sortsD_rows (rows : Rows2) : sortsD (.list (rows.map rowT)) = ((decide (1 ≤ rows.length) && decide (rows.length ≤ 3)) && (rows.all (fun r => nameS r.1 && nameS r.2) && (decide (rows.map (·.1)).Nodup && mutualB rows))) := by
  show ((decide (1 ≤ (rows.map rowT).length) && decide ((rows.map rowT).length ≤ 3)) && ((rows.map rowT).all rowD && (decide (((rows.map rowT).map rowOf).map (·.1)).Nodup && mutualB ((rows.map rowT).map rowOf)))) = _
  rw [rowOf_T, List.length_map, List.all_map]
  rfl
structure GoodS (rows : Rows2) : Prop where
  ok : sortsD (.list (rows.map rowT)) = true
theorem mutual_cons (q : Str × Str) (rows : Rows2) (x : Str) : valV ((q :: rows).map kvOf) (Sum.inr x) = if q.1 = x then some (.str q.2) else valV (rows.map kvOf) (Sum.inr x) := by
  by_cases h : q.1 = x
  · rw [if_pos h, List.map_cons, valV_pos (p := kvOf q) (congrArg Sum.inr h)]
    rfl
  · rw [if_neg h, List.map_cons, valV_neg (p := kvOf q) (fun z => h (Sum.inr.inj z))]
theorem good_of {rows : Rows2} (h1 : 1 ≤ rows.length) (h3 : rows.length ≤ 3) (hn : ∀ r ∈ rows, nameS r.1 = true ∧ nameS r.2 = true) (hd : (rows.map (·.1)).Nodup) (hm : mutualB rows = true) : GoodS rows := by
  refine ⟨?_⟩
  rw [sortsD_rows, decide_eq_true h1, decide_eq_true h3, decide_eq_true hd, hm]
  have e : (rows.all fun r => nameS r.1 && nameS r.2) = true := List.all_eq_true.mpr fun r hr => by
    rw [(hn r hr).1, (hn r hr).2]
    rfl
  rw [e]
  rfl
theorem names3 {xs : List Str} (h : xs.length = 3) : ∃ a b c, xs = [a, b, c] := by
  match xs, h with
  | [a, b, c], _ => exact ⟨a, b, c, rfl⟩
def wayR (a b c : Str) : Nat → Rows2
  | 0 => [(a, a)]
  | 1 => [(a, b), (b, a)]
  | 2 => [(b, b), (a, c), (c, a)]
  | _ => [(a, a), (b, b), (c, c)]
theorem way_good {a b c : Str} (h : Words [a, b, c] 3) (way : Nat) : GoodS (wayR a b c way) := by
  have nd := h.nd
  have nm := h.nm
  have ha := nm a (by simp)
  have hb := nm b (by simp)
  have hc := nm c (by simp)
  have nd2 : a ≠ b ∧ a ≠ c ∧ b ≠ c := by
    simp only [List.nodup_cons, List.mem_cons, List.not_mem_nil, or_false, not_or] at nd
    exact ⟨nd.1.1, nd.1.2, nd.2.1⟩
  obtain ⟨ab, ac, bc⟩ := nd2
  match way with
  | 0 => exact good_of (by show 1 ≤ 1; decide) (by show 1 ≤ 3; decide) (by simp [wayR, ha]) (by simp [wayR]) (by simp [-List.map_cons, mutualB, mutual_cons, wayR])
  | 1 => exact good_of (by show 1 ≤ 2; decide) (by show 2 ≤ 3; decide) (by simp [wayR, ha, hb]) (by simp [wayR, ab]) (by simp [-List.map_cons, mutualB, mutual_cons, wayR, ab, ab.symm])
  | 2 => exact good_of (by show 1 ≤ 3; decide) (by show 3 ≤ 3; decide) (by simp [wayR, ha, hb, hc]) (by simp [wayR, ab.symm, ac, bc]) (by simp [-List.map_cons, mutualB, mutual_cons, wayR, ab, ab.symm, ac, ac.symm, bc, bc.symm])
  | n + 3 => exact good_of (by show 1 ≤ 3; decide) (by show 3 ≤ 3; decide) (by simp [wayR, ha, hb, hc]) (by simp [wayR, ab, ac, bc]) (by simp [-List.map_cons, mutualB, mutual_cons, wayR, ab, ab.symm, ac, ac.symm, bc, bc.symm])
/-! ### kinds -/
structure GoodK (keys : List Str) (ks : List KRow) : Prop where
  nd : (ks.map (·.1)).Nodup
  nm : ∀ k ∈ ks, nameS k.1 = true
  en : ∀ k ∈ ks, 1 ≤ k.2.length ∧ k.2.length ≤ 5 ∧ (∀ x ∈ k.2, nameS x = true ∧ x ∈ keys) ∧ sortedS k.2 = true
theorem strO_map (xs : List Str) : (xs.map PyData.str).map strO = xs := by
  rw [List.map_map]
  exact List.map_id'' (fun r => rfl) xs
theorem endsD_strs (keys xs : List Str) : endsD keys (.tuple (xs.map .str)) = ((decide (1 ≤ xs.length) && decide (xs.length ≤ 5)) && ((xs.all fun x => nameS x && decide (x ∈ keys)) && sortedS xs)) := by
  show ((decide (1 ≤ (xs.map PyData.str).length) && decide ((xs.map PyData.str).length ≤ 5)) && (((xs.map PyData.str).all fun d => nameD d && decide (strO d ∈ keys)) && sortedS ((xs.map PyData.str).map strO))) = _
  rw [strO_map, List.length_map, List.all_map]
  rfl
theorem GoodK.kind {keys : List Str} {ks : List KRow} (g : GoodK keys ks) {k : KRow} (hk : k ∈ ks) : kindD keys (kindT k) = true := by
  show (nameS k.1 && endsD keys (.tuple (k.2.map .str))) = true
  obtain ⟨h1, h5, h2, h3⟩ := g.en k hk
  rw [g.nm k hk, endsD_strs, decide_eq_true h1, decide_eq_true h5, h3]
  have e : (k.2.all fun x => nameS x && decide (x ∈ keys)) = true := List.all_eq_true.mpr fun x hx => by
    rw [(h2 x hx).1, decide_eq_true (h2 x hx).2]
    rfl
  rw [e]
  rfl
theorem GoodK.ok {keys : List Str} {ks : List KRow} (g : GoodK keys ks) (h1 : 1 ≤ ks.length) (h4 : ks.length ≤ 4) : kindsD keys (.list (ks.map kindT)) = true := by
  show ((decide (1 ≤ (ks.map kindT).length) && decide ((ks.map kindT).length ≤ 4)) && (((ks.map kindT).all (kindD keys)) && decide ((ks.map kindT).map name0).Nodup)) = true
  have e0 : (ks.map kindT).map name0 = ks.map (·.1) := by
    rw [List.map_map]
    rfl
  have e : (ks.map kindT).all (kindD keys) = true := List.all_eq_true.mpr fun d hd => by
    obtain ⟨k, hk, rfl⟩ := List.mem_map.mp hd
    exact g.kind hk
  rw [e0, e, decide_eq_true g.nd, List.length_map, decide_eq_true h1, decide_eq_true h4]
  rfl
/-- a kind's row, its ends a plain tuple -/
def KndP (H : Hp) (v : V) (k : KRow) : Prop := ∃ q t, v = .ref q ∧ TupAt H q [.str k.1, .ref t] ∧ PlT H t (k.2.map V.str)
theorem KndP.same {H H' : Hp} {v : V} {k : KRow} (h : KndP H v k) (s : Same H H') : KndP H' v k := let ⟨q, t, e, a, b⟩ := h; ⟨q, t, e, a.same s, b.same s⟩
theorem knds_same {H H' : Hp} (s : Same H H') {vs : List V} {ks : List KRow} (h : Paired (KndP H) vs ks) : Paired (KndP H') vs ks := L2.Paired.mapP h fun _ _ q => q.same s
def spRows : Sp := fun vs H Q _ => ∃ (p : Addr) (n m : Nat), vs = [.ref p, .int (m : Int)] ∧ SrcAt H p n ∧ n ≤ 5000 ∧ 1 ≤ m ∧ m ≤ 5 ∧
  ∀ (t ls lk : Addr) (rows : Rows2) (ks : List KRow) (H' : Hp), GoodS rows → GoodK (rows.map (·.1)) ks → 1 ≤ ks.length → ks.length ≤ 3 → (∀ k ∈ ks, k.2.length ≤ m) → Words (ks.map (·.1)) ks.length → (∃ vs, del H' p lk = some (.lst vs) ∧ Paired (KndP (del H' p)) vs ks) → del H' p t = some (.tup [.ref ls, .ref lk]) → Dt (del H' p) (.ref ls) (.list (rows.map rowT)) → Dt (del H' p) (.ref lk) (.list (ks.map kindT)) →
    SrcAt H' p (n + 200) → Off p H H' → Q (.ref t) H'
/-- len, of a list or a tuple -/
def rLen (K : PySem.W.Frag) : List V → Hp → VK → Prop := fun xs H Q => ∃ p ys, xs = [.ref p] ∧ (SqL K H p ys ∨ SqT K H p ys) ∧ Q (.int ys.length) H
theorem okS_name {x : Str} (h : nameS x = true) : okS x := by
  unfold nameS at h
  rw [Bool.and_eq_true, Bool.and_eq_true, decide_eq_true_eq, decide_eq_true_eq, List.all_eq_true] at h
  refine ⟨by omega, ?_⟩
  show (x.cps.all (· < 0x110000)) = true
  rw [← Array.all_toList, List.all_eq_true]
  intro c hc
  have q := h.2 c hc
  have small : ∀ c ∈ LET.cps.toList, decide (c < 0x110000) = true := by decide +kernel
  exact small c (of_decide_eq_true q)
theorem dt_row {H : Hp} {t : Addr} {x y : Str} (hx : nameS x = true) (hy : nameS y = true) (e : H t = some (.tup [.str x, .str y])) : Dt H (.ref t) (rowT (x, y)) := .tup (.of e) (by show 2 ≤ 1000; decide) (.cons (.str x (okS_name hx)) (.cons (.str y (okS_name hy)) .nil))
abbrev del2 (H : Hp) (p l : Addr) : Hp := del (del H p) l
theorem same_del {H H' : Hp} {l : Addr} (s : Same H H') : Same (del H l) (del H' l) := fun b o e => by
  by_cases q : b = l
  · rw [q, del_same] at e
    cases e
  · rw [del_ne q] at e ⊢
    exact s b o e
theorem off2 {p l : Addr} {H H' : Hp} (h : Off p H H') : Same (del2 H p l) (del2 H' p l) := same_del (off_same h)
theorem del2_upd {p l : Addr} {H : Hp} {o : HO} : Same (del2 H p l) (del2 (upd H l o) p l) := fun b x e => by
  unfold del2 at e ⊢
  by_cases q : b = l
  · rw [q, del_same] at e
    cases e
  · rw [del_ne q] at e ⊢
    by_cases q2 : b = p
    · rw [q2, del_same] at e
      cases e
    · rw [del_ne q2] at e ⊢
      rw [upd_ne q]
      exact e
theorem Off.upd0 {p q : Addr} {H H1 : Hp} {o : HO} (a : Off p H H1) (n : H q = none) : Off p H (L2.upd H1 q o) := fun b x e nb => by
  have nq : b ≠ q := fun z => by
    rw [z, n] at e
    cases e
  rw [upd_ne nq]
  exact a b x e nb
theorem SrcAt.upd {p q : Addr} {H : Hp} {o : HO} {n : Nat} (h : SrcAt H p n) (nq : q ≠ p) : SrcAt (L2.upd H q o) p n := by
  obtain ⟨x, y, z, e, r⟩ := h
  exact ⟨x, y, z, by rw [upd_ne nq.symm]; exact e, r⟩
def GoodE (keys : List Str) (k : KRow) : Prop := 1 ≤ k.2.length ∧ k.2.length ≤ 5 ∧ (∀ x ∈ k.2, nameS x = true ∧ x ∈ keys) ∧ sortedS k.2 = true
theorem row_mem {H : Hp} {xs : List V} {rows : Rows2} (r : DtAll H xs (rows.map rowT)) {x : V} (h : x ∈ xs) : ∃ q r, r ∈ rows ∧ x = .ref q ∧ TupAt H q [.str r.1, .str r.2] := by
  obtain ⟨i, hi⟩ := List.mem_iff_getElem?.mp h
  obtain ⟨d, hd, hx⟩ := r.at_ hi
  rw [List.getElem?_map] at hd
  cases e : rows[i]? with
  | none =>
    rw [e] at hd
    cases hd
  | some r =>
    rw [e] at hd
    cases hd
    cases hx with
    | tup e1 _ l =>
      cases l with
      | cons h1 l =>
        cases l with
        | cons h2 l =>
          cases l
          cases h1
          cases h2
          exact ⟨_, r, List.mem_of_getElem? e, rfl, e1⟩
theorem good_rows {rows : Rows2} (g : GoodS rows) : 1 ≤ rows.length ∧ rows.length ≤ 3 ∧ (∀ r ∈ rows, nameS r.1 = true ∧ nameS r.2 = true) ∧ (rows.map (·.1)).Nodup ∧ mutualB rows = true := by
  have h := g.ok
  rw [sortsD_rows, Bool.and_eq_true, Bool.and_eq_true, Bool.and_eq_true, Bool.and_eq_true, decide_eq_true_eq, decide_eq_true_eq, decide_eq_true_eq, List.all_eq_true] at h
  refine ⟨h.1.1, h.1.2, fun r hr => ?_, h.2.2.1, h.2.2.2⟩
  have q := h.2.1 r hr
  rw [Bool.and_eq_true] at q
  exact q
theorem dt_strs {H : Hp} {t : Addr} {ys : List Str} (e : TupAt H t (ys.map V.str)) (hl : ys.length ≤ 1000) (h : ∀ x ∈ ys, nameS x = true) : Dt H (.ref t) (.tuple (ys.map .str)) := .tup e (by rw [List.length_map]; exact hl) (DtAll.strs ys fun x hx => okS_name (h x hx))
theorem TupAt.ne {H : Hp} {a b : Addr} {xs : List V} (h : TupAt H a xs) (n : H b = none) : a ≠ b := h.rd.elim (fun e => ne_of_none e n) fun ⟨_, e⟩ => ne_of_none e n
theorem TupAt.off {p a : Addr} {H H' : Hp} {xs : List V} (h : TupAt H a xs) (o : Off p H H') (n : a ≠ p) : TupAt H' a xs := ⟨h.rd.elim (fun e => .inl (o _ _ e n)) fun ⟨u, e⟩ => .inr ⟨u, o _ _ e n⟩⟩
theorem del2_new {p u : Addr} {H : Hp} {o : HO} (n : H u = none) (nup : u ≠ p) : Same (del H p) (del2 (upd H u o) p u) := fun q x e => by
  have nq : q ≠ u := fun z => by
    rw [z, del_ne nup, n] at e
    cases e
  have nqp : q ≠ p := fun z => by
    rw [z, del_same] at e
    cases e
  unfold del2
  rw [del_ne nq, del_ne nqp, upd_ne nq]
  rw [del_ne nqp] at e
  exact e
theorem fresh2 {H : Hp} {p q u : Addr} {n : Nat} {o o' : HO} (hp : SrcAt H p n) (hu : H u = some o') (e : H q = none) : Same (del2 H p u) (del2 (upd H q o) p u) ∧ del2 (upd H q o) p u q = some o ∧ SrcAt (upd H q o) p n ∧ upd H q o u = some o' ∧ Off p H (upd H q o) := by
  have nq := hp.ne e
  have nu := (ne_of_none hu e).symm
  have o1 : Off p H (upd H q o) := Same.off (same_new e)
  refine ⟨off2 o1, ?_, hp.same (same_new e), same_new e _ _ hu, o1⟩
  unfold del2
  rw [del_ne nu, del_ne nq, upd_same]
section
variable {P : Program} {w : World} {K : PySem.W.Frag} {mg : Str → Option Value} {base : Heap}
abbrev rwN : List Str := ["_law_state_here", "_law_most", "_law_one", "_law_two", "_law_three", "_law_some", "_law_sorts", "_law_kinds", "_law_name", "_law_own", "_law_k"]
theorem scRows : FnScope rwN ["_law_state_here", "_law_most"] (defScope sRows) := ⟨rfl, rfl, rfl, by decide +kernel, rfl, by decide +kernel, by decide +kernel⟩
theorem ok_rows {f fN fM : Addr} {fd fdN fdM : FuncData} (F : Fun K "_law_stock_rows" "_law_stock_rows" sRows f fd) (M : Mods mg)
    (GN : FnOk P w K mg base CX0 1 fN fdN ["_law_state_here", "_law_many"] spPick) (kN : PySem.W.keepIn K (.ref fN) = true) (bN : Binds K fdN ["_law_state_here", "_law_many"] []) (gN : mg "_law_pick" = some (.ref fN))
    (GM : FnOk P w K mg base CX0 2 fM fdM ["_law_state_here", "_law_many"] spWords) (kM : PySem.W.keepIn K (.ref fM) = true) (bM : Binds K fdM ["_law_state_here", "_law_many"] []) (gM : mg "_law_words" = some (.ref fM)) (mR : mg "range" = none) :
    FnOk P w K mg base CX0 3 f fd ["_law_state_here", "_law_most"] spRows := by
  refine F.ok scRows (fun vs H Q E h => ?_) (fun cdv A outer s H vs Q E hr h => ?_)
  · obtain ⟨p, n, m, rfl, _⟩ := h
    rfl
  · obtain ⟨p, n, m, rfl, hp, hn, hm1, hm5, k⟩ := h
    have hr1 : Room 1 (A.deeper (envOfC "_law_stock_rows" (defScope sRows) s.heap.objs.size f cdv)) := hr.mono (by decide)
    refine ⟨_, (pss_cons (ps_asg (pe_call GM hr (by rfl) gM kM bM .nil pass0 (pa_cons (pv 0) (pa_cons pe_int pa_nil))) (pg_lst rfl (pgs_cons (pg_name (i := 2) scRows.nd rfl (Or.inl rfl)) (pgs_cons (pg_name (i := 3) scRows.nd rfl (Or.inl rfl)) (pgs_cons (pg_name (i := 4) scRows.nd rfl (Or.inl rfl)) pgs_nil)))))
      (pss_cons (ps_set (i := 5) scRows.nd rfl (Or.inl rfl) (pe_lst (pa_cons (pe_lst (pa_cons (pe_tup (pa_cons (pv 2) (pa_cons (pv 2) pa_nil))) pa_nil)) (pa_cons (pe_lst (pa_cons (pe_tup (pa_cons (pv 2) (pa_cons (pv 3) pa_nil))) (pa_cons (pe_tup (pa_cons (pv 3) (pa_cons (pv 2) pa_nil))) pa_nil))) (pa_cons (pe_lst (pa_cons (pe_tup (pa_cons (pv 3) (pa_cons (pv 3) pa_nil))) (pa_cons (pe_tup (pa_cons (pv 2) (pa_cons (pv 4) pa_nil))) (pa_cons (pe_tup (pa_cons (pv 4) (pa_cons (pv 2) pa_nil))) pa_nil)))) pa_nil)))))
      (pss_cons (ps_expr (pe_bm PySem.F.plainAttrs_list PySem.F.slot_list_append PySem.F.type_list_append mt_append (pv 5) (pa_cons (pe_lst (pa_cons (pe_tup (pa_cons (pv 2) (pa_cons (pv 2) pa_nil))) (pa_cons (pe_tup (pa_cons (pv 3) (pa_cons (pv 3) pa_nil))) (pa_cons (pe_tup (pa_cons (pv 4) (pa_cons (pv 4) pa_nil))) pa_nil)))) pa_nil)))
      (pss_cons (ps_set (i := 6) scRows.nd rfl (Or.inr rfl) (pe_ix ix_list (pv 5) (pe_call GN hr1 (by rfl) gN kN bN .nil pass0 (pa_cons (pv 0) (pa_cons pe_int pa_nil))) (fun _ _ => rfl)))
      (pss_cons (ps_set (i := 7) scRows.nd rfl (Or.inl rfl) (pe_lst pa_nil))
      (pss_cons (ps_for PassesOwn.never rfl (pi_list (pe_call GM hr (by rfl) gM kM bM .nil pass0 (pa_cons (pv 0) (pa_cons (pe_op op_add pe_int (pe_call GN hr1 (by rfl) gN kN bN .nil pass0 (pa_cons (pv 0) (pa_cons pe_int pa_nil)))) pa_nil)))) (pg_name (i := 8) scRows.nd rfl (Or.inl rfl)) (pss_cons (ps_setLc (i := 9) (own := [("_law_k", 10)]) (g := gName 10) (tt := tYes) (te := (tOp (rIxT K) (tOp (rIxL K) (tVar 6) (tCall spPick [] E0 (tCons (tVar 0) (tCons (tCB (rLen K) (tCons (tVar 6) tNil)) tNil)))) (tC (.int 0)))) rfl scRows.nd rfl rfl (sw_true rfl rfl rfl (by decide +kernel)) (pi_range1 (by rfl) mR (pa_cons (pe_op op_add pe_int (pe_call GN hr1 (by rfl) gN kN bN .nil pass0 (pa_cons (pv 0) (pa_cons (pv 1) pa_nil)))) pa_nil)) (blkOk_by (N := rwN) (sc := defScope sRows) (by decide +kernel)) (fun _ _ _ _ _ => pg_name (i := 10) scRows.nd rfl (Or.inl rfl)) (fun _ _ _ _ _ => pts_nil) (fun _ _ _ _ _ => (by exact (pe_ix ix_tup (pe_ix ix_list (pv 6) (pe_call GN hr1 (by rfl) gN kN bN .nil pass0 (pa_cons (pv 0) (pa_cons (pe_callB call_len_seq (by rfl) M.len PySem.boot_len (pa_cons (pv 6) pa_nil)) pa_nil))) (fun _ _ => rfl)) pe_int (fun _ _ => rfl)))))
      (pss_one (ps_expr (pe_bm PySem.F.plainAttrs_list PySem.F.slot_list_append PySem.F.type_list_append mt_append (pv 7) (pa_cons (pe_tup (pa_cons (pv 8) (pa_cons (pe_callTy call_tuple_ofP (by rfl) M.tup_ (by decide +kernel) (pa_cons (pe_callB cr_sortedS (by rfl) M.srt (by decide +kernel) (pa_cons (pv 9) pa_nil)) pa_nil)) pa_nil))) pa_nil))))))
      (pss_one (ps_ret (pe_tup (pa_cons (pv 6) (pa_cons (pv 7) pa_nil))))))))))), ?_⟩
    refine ⟨_, rfl, p, 3, n, rfl, hp, by omega, by decide, fun l0 nms H1 l3 hnm l00 hl0 hp1 o1 => ?_⟩
    obtain ⟨a, b, c, rfl⟩ := names3 l3
    refine ⟨l0, _, rfl, SqL.of hl0, rfl, _, _, rfl, _, _, rfl, _, _, rfl, rfl, ?_⟩
    have ha := hnm.nm a (by simp)
    have hb := hnm.nm b (by simp)
    have hc := hnm.nm c (by simp)
    have oA := o1
    refine ⟨_, rfl, _, rfl, by show 2 ≤ sizeLine; decide, fun t00 nt00 => ?_⟩
    obtain ⟨st00, dt00, pt00, ft00⟩ := fresh (o := .tup [.str a, .str a]) hp1 nt00
    have ot00 := oA.trans ft00
    have zt00 : upd H1 t00 (.tup [.str a, .str a]) t00 = some (.tup [.str a, .str a]) := upd_same
    generalize eqt00 : upd H1 t00 (.tup [.str a, .str a]) = Gt00 at st00 dt00 pt00 ft00 ot00 zt00 ⊢
    refine ⟨by show 1 ≤ sizeLine; decide, fun w0 nw0 => ?_⟩
    obtain ⟨sw0, dw0, pw0, fw0⟩ := fresh (o := .lst [.ref t00]) pt00 nw0
    have ow0 := ot00.trans fw0
    have zw0 : upd Gt00 w0 (.lst [.ref t00]) w0 = some (.lst [.ref t00]) := upd_same
    generalize eqw0 : upd Gt00 w0 (.lst [.ref t00]) = Gw0 at sw0 dw0 pw0 fw0 ow0 zw0 ⊢
    have W0 : Dt (del Gw0 p) (.ref w0) (.list ((wayR a b c 0).map rowT)) := .lst dw0 (by show 1 ≤ 1000; decide) (.cons (dt_row ha ha (sw0 _ _ dt00)) .nil)
    refine ⟨_, rfl, _, rfl, by show 2 ≤ sizeLine; decide, fun t10 nt10 => ?_⟩
    obtain ⟨st10, dt10, pt10, ft10⟩ := fresh (o := .tup [.str a, .str b]) pw0 nt10
    have ot10 := ow0.trans ft10
    have zt10 : upd Gw0 t10 (.tup [.str a, .str b]) t10 = some (.tup [.str a, .str b]) := upd_same
    generalize eqt10 : upd Gw0 t10 (.tup [.str a, .str b]) = Gt10 at st10 dt10 pt10 ft10 ot10 zt10 ⊢
    refine ⟨_, rfl, _, rfl, by show 2 ≤ sizeLine; decide, fun t11 nt11 => ?_⟩
    obtain ⟨st11, dt11, pt11, ft11⟩ := fresh (o := .tup [.str b, .str a]) pt10 nt11
    have ot11 := ot10.trans ft11
    have zt11 : upd Gt10 t11 (.tup [.str b, .str a]) t11 = some (.tup [.str b, .str a]) := upd_same
    generalize eqt11 : upd Gt10 t11 (.tup [.str b, .str a]) = Gt11 at st11 dt11 pt11 ft11 ot11 zt11 ⊢
    refine ⟨by show 2 ≤ sizeLine; decide, fun w1 nw1 => ?_⟩
    obtain ⟨sw1, dw1, pw1, fw1⟩ := fresh (o := .lst [.ref t10, .ref t11]) pt11 nw1
    have ow1 := ot11.trans fw1
    have zw1 : upd Gt11 w1 (.lst [.ref t10, .ref t11]) w1 = some (.lst [.ref t10, .ref t11]) := upd_same
    generalize eqw1 : upd Gt11 w1 (.lst [.ref t10, .ref t11]) = Gw1 at sw1 dw1 pw1 fw1 ow1 zw1 ⊢
    have W1 : Dt (del Gw1 p) (.ref w1) (.list ((wayR a b c 1).map rowT)) := .lst dw1 (by show 2 ≤ 1000; decide) (.cons (dt_row ha hb ((st11.trans sw1) _ _ dt10)) (.cons (dt_row hb ha (sw1 _ _ dt11)) .nil))
    refine ⟨_, rfl, _, rfl, by show 2 ≤ sizeLine; decide, fun t20 nt20 => ?_⟩
    obtain ⟨st20, dt20, pt20, ft20⟩ := fresh (o := .tup [.str b, .str b]) pw1 nt20
    have ot20 := ow1.trans ft20
    have zt20 : upd Gw1 t20 (.tup [.str b, .str b]) t20 = some (.tup [.str b, .str b]) := upd_same
    generalize eqt20 : upd Gw1 t20 (.tup [.str b, .str b]) = Gt20 at st20 dt20 pt20 ft20 ot20 zt20 ⊢
    refine ⟨_, rfl, _, rfl, by show 2 ≤ sizeLine; decide, fun t21 nt21 => ?_⟩
    obtain ⟨st21, dt21, pt21, ft21⟩ := fresh (o := .tup [.str a, .str c]) pt20 nt21
    have ot21 := ot20.trans ft21
    have zt21 : upd Gt20 t21 (.tup [.str a, .str c]) t21 = some (.tup [.str a, .str c]) := upd_same
    generalize eqt21 : upd Gt20 t21 (.tup [.str a, .str c]) = Gt21 at st21 dt21 pt21 ft21 ot21 zt21 ⊢
    refine ⟨_, rfl, _, rfl, by show 2 ≤ sizeLine; decide, fun t22 nt22 => ?_⟩
    obtain ⟨st22, dt22, pt22, ft22⟩ := fresh (o := .tup [.str c, .str a]) pt21 nt22
    have ot22 := ot21.trans ft22
    have zt22 : upd Gt21 t22 (.tup [.str c, .str a]) t22 = some (.tup [.str c, .str a]) := upd_same
    generalize eqt22 : upd Gt21 t22 (.tup [.str c, .str a]) = Gt22 at st22 dt22 pt22 ft22 ot22 zt22 ⊢
    refine ⟨by show 3 ≤ sizeLine; decide, fun w2 nw2 => ?_⟩
    obtain ⟨sw2, dw2, pw2, fw2⟩ := fresh (o := .lst [.ref t20, .ref t21, .ref t22]) pt22 nw2
    have ow2 := ot22.trans fw2
    have zw2 : upd Gt22 w2 (.lst [.ref t20, .ref t21, .ref t22]) w2 = some (.lst [.ref t20, .ref t21, .ref t22]) := upd_same
    generalize eqw2 : upd Gt22 w2 (.lst [.ref t20, .ref t21, .ref t22]) = Gw2 at sw2 dw2 pw2 fw2 ow2 zw2 ⊢
    have W2 : Dt (del Gw2 p) (.ref w2) (.list ((wayR a b c 2).map rowT)) := .lst dw2 (by show 3 ≤ 1000; decide) (.cons (dt_row hb hb (((st21.trans st22).trans sw2) _ _ dt20)) (.cons (dt_row ha hc ((st22.trans sw2) _ _ dt21)) (.cons (dt_row hc ha (sw2 _ _ dt22)) .nil)))
    refine ⟨by show 3 ≤ sizeLine; decide, fun u nu => ?_⟩
    obtain ⟨su, du, pu, fu⟩ := fresh (o := .lst [.ref w0, .ref w1, .ref w2]) pw2 nu
    have ou := ow2.trans fu
    have zu : upd Gw2 u (.lst [.ref w0, .ref w1, .ref w2]) u = some (.lst [.ref w0, .ref w1, .ref w2]) := upd_same
    generalize equ : upd Gw2 u (.lst [.ref w0, .ref w1, .ref w2]) = Gu at su du pu fu ou zu ⊢
    have nup := pw2.ne nu
    have D2u : Same (del Gw2 p) (del2 Gu p u) := equ ▸ del2_new nu nup
    have W0 := (W0.same (((((((st10.trans st11).trans sw1).trans st20).trans st21).trans st22).trans sw2))).same D2u
    have W1 := (W1.same ((((st20.trans st21).trans st22).trans sw2))).same D2u
    have W2 := (W2.same (Same.refl _)).same D2u
    have lu0 : H u = none := by
      exact ow2.free pw2 nu
    refine ⟨_, rfl, .inl ⟨rfl, _, SqL.of zu⟩, ?_⟩
    refine ⟨_, rfl, _, rfl, by show 2 ≤ sizeLine; decide, fun t30 nt30 => ?_⟩
    obtain ⟨st30, dt30, pt30, ut30, ft30⟩ := fresh2 (o := .tup [.str a, .str a]) pu zu nt30
    have ot30 := ou.trans ft30
    generalize upd Gu t30 (.tup [.str a, .str a]) = Gt30 at st30 dt30 pt30 ut30 ft30 ot30 ⊢
    refine ⟨_, rfl, _, rfl, by show 2 ≤ sizeLine; decide, fun t31 nt31 => ?_⟩
    obtain ⟨st31, dt31, pt31, ut31, ft31⟩ := fresh2 (o := .tup [.str b, .str b]) pt30 ut30 nt31
    have ot31 := ot30.trans ft31
    generalize upd Gt30 t31 (.tup [.str b, .str b]) = Gt31 at st31 dt31 pt31 ut31 ft31 ot31 ⊢
    refine ⟨_, rfl, _, rfl, by show 2 ≤ sizeLine; decide, fun t32 nt32 => ?_⟩
    obtain ⟨st32, dt32, pt32, ut32, ft32⟩ := fresh2 (o := .tup [.str c, .str c]) pt31 ut31 nt32
    have ot32 := ot31.trans ft32
    generalize upd Gt31 t32 (.tup [.str c, .str c]) = Gt32 at st32 dt32 pt32 ut32 ft32 ot32 ⊢
    refine ⟨by show 3 ≤ sizeLine; decide, fun w3 nw3 => ?_⟩
    obtain ⟨sw3, dw3, pw3, uw3, fw3⟩ := fresh2 (o := .lst [.ref t30, .ref t31, .ref t32]) pt32 ut32 nw3
    have ow3 := ot32.trans fw3
    generalize upd Gt32 w3 (.lst [.ref t30, .ref t31, .ref t32]) = Gw3 at sw3 dw3 pw3 uw3 fw3 ow3 ⊢
    have W3 : Dt (del2 Gw3 p u) (.ref w3) (.list ((wayR a b c 3).map rowT)) := .lst dw3 (by show 3 ≤ 1000; decide) (.cons (dt_row ha ha (((st31.trans st32).trans sw3) _ _ dt30)) (.cons (dt_row hb hb ((st32.trans sw3) _ _ dt31)) (.cons (dt_row hc hc (sw3 _ _ dt32)) .nil)))
    have W0 := W0.same ((((st30.trans st31).trans st32).trans sw3))
    have W1 := W1.same ((((st30.trans st31).trans st32).trans sw3))
    have W2 := W2.same ((((st30.trans st31).trans st32).trans sw3))
    refine ⟨u, _, _, rfl, rfl, uw3, small1000 (by show 3 ≤ 1000; decide), ?_⟩
    have zU : upd Gw3 u (.lst ([.ref w0, .ref w1, .ref w2] ++ [.ref w3])) u = some (.lst [.ref w0, .ref w1, .ref w2, .ref w3]) := upd_same
    have tU : Same (del2 Gw3 p u) (del (upd Gw3 u (.lst ([.ref w0, .ref w1, .ref w2] ++ [.ref w3]))) p) := (del2_upd (p := p) (l := u) (o := .lst ([.ref w0, .ref w1, .ref w2] ++ [.ref w3]))).trans del_sub
    have pU := pw3.upd (o := .lst ([.ref w0, .ref w1, .ref w2] ++ [.ref w3])) nup
    have oU := ow3.upd0 (o := .lst ([.ref w0, .ref w1, .ref w2] ++ [.ref w3])) lu0
    generalize upd Gw3 u (.lst ([.ref w0, .ref w1, .ref w2] ++ [.ref w3])) = GU at zU tU pU oU ⊢
    have W0 := W0.same tU
    have W1 := W1.same tU
    have W2 := W2.same tU
    have W3 := W3.same tU
    refine ⟨_, rfl, _, rfl, p, 4, n + 70, rfl, pU, by decide, by decide, by omega, fun r H3 r0 r1 hp3 o3 => ?_⟩
    obtain ⟨way, rfl⟩ := Int.eq_ofNat_of_zero_le r0
    have hway : way < 4 := by omega
    obtain ⟨lx, at_, Dx⟩ : ∃ wx, ([V.ref w0, V.ref w1, V.ref w2, V.ref w3])[way]? = some (V.ref wx) ∧ Dt (del GU p) (.ref wx) (.list ((wayR a b c way).map rowT)) := by
      match way, hway with
      | 0, _ => exact ⟨w0, rfl, W0⟩
      | 1, _ => exact ⟨w1, rfl, W1⟩
      | 2, _ => exact ⟨w2, rfl, W2⟩
      | 3, _ => exact ⟨w3, rfl, W3⟩
    refine ⟨u, _, _, _, rfl, rfl, SqL.of (o3 _ _ zU nup), at_of rfl at_, ?_⟩
    have gd := way_good hnm way
    have D5 := Dx.same (off_same o3)
    have o5 := oU.trans o3
    have hp5 := hp3
    generalize (wayR a b c way) = rows at D5 gd
    generalize H3 = H5 at hp5 o5 D5 ⊢
    clear W0 W1 W2 W3 zU tU pU oU
    obtain ⟨g1, g3, gN_, gnd, gmu⟩ := good_rows gd
    refine ⟨Nat.zero_le _, fun lk nlk => ?_⟩
    have nlkp := hp5.ne nlk
    have lk0 : H lk = none := o5.free hp5 nlk
    obtain ⟨sk1, dk1, hp6, fk1⟩ := fresh (o := .lst []) hp5 nlk
    have hlk6 : upd H5 lk (.lst []) lk = some (.lst []) := upd_same
    have o6 := o5.trans fk1
    have D6 : Dt (del2 (upd H5 lk (.lst [])) p lk) (.ref lx) (.list (rows.map rowT)) := D5.same (del2_new nlk nlkp)
    generalize upd H5 lk (.lst []) = H6 at sk1 dk1 hp6 fk1 hlk6 o6 D6 ⊢
    refine ⟨_, rfl, _, rfl, p, 3, n + 71, rfl, hp6, by decide, by decide, by omega, fun r7 H7 r70 r71 hp7 o7 => ?_⟩
    obtain ⟨a4, rfl⟩ := Int.eq_ofNat_of_zero_le r70
    refine ⟨_, _, rfl, rfl, p, 1 + a4, n + 72, rfl, hp7, by omega, by omega, fun lnm nms H8 l8 hnm8 lnm0 hlnm hp8 o8 => ?_⟩
    refine ⟨lnm, rfl, ⟨_, SqL.of hlnm⟩, ?_⟩
    have nlnmp : lnm ≠ p := hp7.ne lnm0
    have nlkl : lnm ≠ lk := fun z => by
      have q := o7 _ _ hlk6 nlkp
      rw [← z, lnm0] at q
      cases q
    have oZ := (o6.trans o7).trans o8
    have D8 := D6.same ((off2 (l := lk) o7).trans (off2 o8))
    have hlk8 := o8 _ _ (o7 _ _ hlk6 nlkp) nlkp
    refine for_it walk_list (fun i σ H' => ∃ (y9 y10 y11 : Option V) (ks : List KRow) (vs : List V), σ = [some (.ref p), some (.int (m : Int)), some (.str a), some (.str b), some (.str c), some (.ref u), some (.ref lx), some (.ref lk), y9, y10, y11] ∧ Off p H H' ∧ SrcAt H' p (n + 142 + 8 * i) ∧ H' lnm = some (.lst (nms.map V.str)) ∧ H' lk = some (.lst vs) ∧ Dt (del2 H' p lk) (.ref lx) (.list (rows.map rowT)) ∧ DtAll (del2 H' p lk) vs (ks.map kindT) ∧ Paired (KndP (del2 H' p lk)) vs ks ∧ ks.map (·.1) = nms.take i ∧ (∀ k ∈ ks, k.2.length ≤ m) ∧ ∀ k ∈ ks, GoodE (rows.map (·.1)) k)
      ⟨none, none, none, [], [], rfl, oZ, hp8, hlnm, hlk8, D8, .nil, .nil, rfl, (fun _ z => nomatch z), fun _ z => nomatch z⟩ (fun i σ H' hi ⟨_, _, _, _, _, _, _, _, e, _⟩ => SqL.of e) ?_ ?_
    · rintro i x σ H9 H9' hi ⟨y9, y10, y11, ks, vs, rfl, o9, hp9, hlnm9, hlk9, D9, ra9, kn9, km, hkm, hks⟩ ⟨rfl, hx⟩
      rw [List.length_map, l8] at hi
      have hnx : ∃ z, nms[i]? = some z ∧ x = .str z := by
        have q := hx
        rw [List.getElem?_map] at q
        cases e : nms[i]? with
        | none =>
          rw [e] at q
          cases q
        | some z =>
          rw [e] at q
          exact ⟨z, rfl, (Option.some.inj q).symm⟩
      obtain ⟨z, hz, rfl⟩ := hnx
      have hzn := hnm8.nm z (List.mem_of_getElem? hz)
      refine ⟨_, rfl, _, rfl, p, (m : Int), n + 142 + 8 * i, rfl, hp9, by omega, by omega, by omega, fun r10 H10 r100 r101 hp10 o10 => ?_⟩
      obtain ⟨m', rfl⟩ := Int.eq_ofNat_of_zero_le r100
      refine ⟨_, _, rfl, rfl, _, rfl, by omega, by omega, fun D nD => ?_⟩
      have em : (1 + (m' : Int)).toNat = 1 + m' := by omega
      rw [em]
      have nDp := hp10.ne nD
      have D11 := D9.same (off2 (l := lk) o10)
      have ra11 := ra9.same (off2 (l := lk) o10)
      have kn11 := knds_same (off2 (l := lk) o10) kn9
      have hlk11 := o10 _ _ hlk9 nlkp
      have hlnm11 := o10 _ _ hlnm9 nlnmp
      have oH11 := o9.trans o10
      refine lc_range (lo := 0) (n := 1 + m') (fun j H' => Off p H10 H' ∧ SrcAt H' p (n + 142 + 8 * i + 1 + j) ∧ ∃ es : List Str, H' D = some (.lst (es.map V.str)) ∧ es.length = j ∧ ∀ x ∈ es, x ∈ rows.map (·.1)) ⟨Same.off (same_new nD), (hp10.same (same_new nD)), [], upd_same, rfl, fun _ z => nomatch z⟩ ?_ ?_
      · rintro j H12 hj ⟨o12, hp12, es, hD12, le, hes⟩
        refine ⟨rfl, ?_⟩
        show tOp (rIxT K) (tOp (rIxL K) (tVar 6) (tCall spPick [] E0 (tCons (tVar 0) (tCons (tCB (rLen K) (tCons (tVar 6) tNil)) tNil)))) (tC (.int 0)) _ _ _
        have D12 := D11.same (off2 (l := lk) o12)
        obtain ⟨xs12, hx12, lx12, ra12⟩ := dt_list D12
        have nlxp : lx ≠ p := fun z => by
          rw [z] at hx12
          have q := del_sub _ _ hx12
          rw [del_same] at q
          cases q
        have hlx12 := del_sub _ _ (del_sub _ _ hx12)
        have lenx : xs12.length = rows.length := by rw [ra12.len, List.length_map]
        refine ⟨_, rfl, _, rfl, _, rfl, lx, xs12, rfl, .inl (SqL.of hlx12), p, (xs12.length : Int), _, rfl, hp12, by omega, by omega, by omega, fun y H13 y0 y1 hp13 o13 => ?_⟩
        obtain ⟨y, rfl⟩ := Int.eq_ofNat_of_zero_le y0
        have hy : y < xs12.length := by omega
        obtain ⟨q, r, hr_, eqv, eq_⟩ := row_mem ra12 (List.getElem_mem hy)
        refine ⟨lx, xs12, _, .ref q, rfl, rfl, SqL.of (o13 _ _ hlx12 nlxp), at_of rfl (by rw [List.getElem?_eq_getElem hy, eqv]), ?_⟩
        have nqp : q ≠ p := (eq_.same del_sub).ne del_same
        have hq13 := ((eq_.same del_sub).same del_sub).off o13 nqp
        refine ⟨q, _, 0, _, rfl, rfl, hq13.sq, ix0, ?_⟩
        have hD13 := o13 _ _ hD12 nDp
        refine ⟨_, hD13, ?_, (o12.trans o13).upd0 nD, ((hp13.upd nDp).mono (by omega)), es ++ [r.1], ?_, ?_, ?_⟩
        · rw [List.length_map]
          exact small1000 (by omega)
        · rw [upd_same, List.map_append]
          rfl
        · rw [List.length_append, le]
          rfl
        · intro x hx
          rcases List.mem_append.mp hx with h | h
          · exact hes x h
          · rw [List.mem_singleton.mp h]
            exact List.mem_map_of_mem (f := (·.1)) hr_
      · rintro H12 ⟨o12, hp12, es, hD12, le, hes⟩
        have hlk12 := o12 _ _ hlk11 nlkp
        refine ⟨_, rfl, .inl ⟨rfl, _, SqL.of hlk12⟩, _, rfl, _, rfl, D, es, rfl, SqL.of hD12, by omega, fun ys q pm so nq => ?_⟩
        have t1 := same_new (o := .lst (ys.map V.str)) nq
        have hq1 : upd H12 q (.lst (ys.map V.str)) q = some (.lst (ys.map V.str)) := upd_same
        have hpq := hp12.same t1
        have hlkq := t1 _ _ hlk12
        refine ⟨q, _, rfl, .inl ⟨SqL.of hq1, fun t Ht nt t2 plt _ => ?_⟩⟩
        have hpt := hpq.same t2
        have hlkt := t2 _ _ hlkq
        have ntp := hpq.ne nt
        have ntlk : t ≠ lk := fun z => by
          rw [← z, nt] at hlkq
          cases hlkq
        refine ⟨by show 2 ≤ sizeLine; decide, fun k nk => ?_⟩
        have t3 := same_new (o := .tup [.str z, .ref t]) nk
        have tA := (t1.trans t2).trans t3
        have lys : ys.length = 1 + m' := by rw [pm.length_eq, le]
        have kys : ∀ x ∈ ys, nameS x = true ∧ x ∈ rows.map (·.1) := fun x hx => by
          have h1 := hes x (pm.mem_iff.mp hx)
          obtain ⟨r, hr_, e⟩ := List.mem_map.mp h1
          exact ⟨by rw [← e]; exact (gN_ r hr_).1, h1⟩
        have nkp := hpt.ne nk
        have hlkA := tA _ _ hlk12
        have nklk : k ≠ lk := fun z => by
          rw [← z, nk] at hlkt
          cases hlkt
        have ek : upd Ht k (.tup [.str z, .ref t]) k = some (.tup [.str z, .ref t]) := upd_same
        have et := plt.same t3
        generalize upd Ht k (.tup [.str z, .ref t]) = H13 at t3 tA hlkA ek et ⊢
        have etd : PlT (del2 H13 p lk) t (ys.map V.str) := by
          obtain ⟨o, e, d, c⟩ := et
          refine ⟨o, ?_, d, c⟩
          unfold del2
          rw [del_ne ntlk, del_ne ntp, e]
        have ekd : del2 H13 p lk k = some (.tup [.str z, .ref t]) := by
          unfold del2
          rw [del_ne nklk, del_ne nkp, ek]
        have dk : Dt (del2 H13 p lk) (.ref k) (kindT (z, ys)) :=
          .tup (xs := [.str z, .ref t]) (.of ekd) (by show 2 ≤ 1000; decide) (.cons (.str z (okS_name hzn)) (.cons (dt_strs (ys := ys) ⟨etd.rd⟩ (by omega) fun x hx => (kys x hx).1) .nil))
        have kk : KndP (del2 H13 p lk) (.ref k) (z, ys) := ⟨k, t, rfl, .of ekd, etd⟩
        have oB := (oH11.trans o12).trans (Same.off tA)
        refine ⟨lk, vs, .ref k, rfl, rfl, hlkA, ?_, ?_⟩
        · have q := congrArg List.length km
          rw [List.length_map, List.length_take] at q
          have q2 := ra9.len
          rw [List.length_map] at q2
          exact small1000 (by omega)
        · refine ⟨_, _, _, ks ++ [(z, ys)], _, rfl, oB.upd0 lk0, ((hp12.same tA).upd nlkp).mono (by omega), ?_, upd_same, ?_, ?_, ?_, ?_, ?_, ?_⟩
          · rw [upd_ne nlkl]
            exact tA _ _ (o12 _ _ hlnm11 nlnmp)
          · exact D11.same (((off2 (l := lk) o12).trans (off2 (Same.off tA))).trans del2_upd)
          · rw [List.map_append]
            exact ((ra11.same (((off2 (l := lk) o12).trans (off2 (Same.off tA))).trans del2_upd))).app (.cons (dk.same del2_upd) .nil)
          · exact (knds_same (((off2 (l := lk) o12).trans (off2 (Same.off tA))).trans del2_upd) kn11).snoc (kk.same del2_upd)
          · rw [List.map_append, km, List.take_add_one, hz]
            rfl
          · intro k' hk'
            rcases List.mem_append.mp hk' with h | h
            · exact hkm k' h
            · rw [List.mem_singleton.mp h]
              show ys.length ≤ m
              omega
          · intro k' hk'
            rcases List.mem_append.mp hk' with h | h
            · exact hks k' h
            · rw [List.mem_singleton.mp h]
              exact ⟨by show 1 ≤ ys.length; omega, by show ys.length ≤ 5; omega, kys, so⟩
    · rintro σ H9 ⟨y9, y10, y11, ks, vs, rfl, o9, hp9, hlnm9, hlk9, D9, ra9, kn9, km, hkm, hks⟩
      rw [List.length_map, l8] at hp9
      rw [List.length_map, List.take_of_length_le (Nat.le_refl _)] at km
      have lks : ks.length = 1 + a4 := by
        have q := congrArg List.length km
        rw [List.length_map, l8] at q
        exact q
      have gK : GoodK (rows.map (·.1)) ks := ⟨by rw [km]; exact hnm8.nd, fun k hk => hnm8.nm k.1 (by rw [← km]; exact List.mem_map_of_mem (f := (·.1)) hk), hks⟩
      refine ⟨_, rfl, _, rfl, by show 2 ≤ sizeLine; decide, fun t nt => ?_⟩
      have t1 := same_new (o := .tup [.ref lx, .ref lk]) nt
      have ntp := hp9.ne nt
      have lvs : vs.length ≤ 1000 := by
        have q2 := ra9.len
        rw [List.length_map] at q2
        omega
      refine k t lx lk rows ks _ gd gK (by omega) (by omega) hkm (by rw [km, lks]; exact hnm8) ⟨vs, by rw [del_ne nlkp]; exact t1 _ _ hlk9, knds_same (del_sub.trans (same_del t1)) kn9⟩ (by rw [del_ne ntp]; exact upd_same) ?_ ?_ ((hp9.same t1).mono (by omega)) (o9.trans (Same.off t1))
      · exact D9.same (del_sub.trans (same_del t1))
      · refine .lst (xs := vs) ?_ lvs (ra9.same (del_sub.trans (same_del t1)))
        rw [del_ne nlkp]
        exact t1 _ _ hlk9
end
end Toy
set_option Elab.async false
set_option linter.all false
set_option maxRecDepth 100000
set_option maxHeartbeats 4000000
namespace Toy
open PySem PySem.Spec PyProof.Rows L2
/-! ### numbers and legs -/
def numD : PyData → Bool
  | .int _ => true
  | _ => false
def spNumber : Sp := fun vs H Q _ => ∃ (v : V) (d : PyData), vs = [v] ∧ Dt H v d ∧ Q (.bl (numD d)) H
def legD (keys : List Str) : PyData → Bool
  | .tuple [a, b] => nameD a && (nameD b && decide (strO b ∈ keys))
  | _ => false
def spIsLeg : Sp := fun vs H Q _ => ∃ (v : V) (d : PyData) (p : Addr) (rows : Rows2), vs = [v, .ref p] ∧ Dt H v d ∧ H p = some (.dK (rows.map kvOf)) ∧ ∀ H', Same H H' → Q (.bl (legD (rows.map (·.1)) d)) H'
section
variable {P : Program} {w : World} {K : PySem.W.Frag} {mg : Str → Option Value} {base : Heap}
theorem scIsLeg : FnScope ["leg", "partners"] ["leg", "partners"] (defScope sIsLeg) := ⟨rfl, rfl, rfl, by decide +kernel, rfl, by decide +kernel, by decide +kernel⟩
theorem ok_isLeg {f fP fN : Addr} {fd fdP fdN : FuncData} (F : Fun K "_is_leg" "_is_leg" sIsLeg f fd)
    (GP : FnOk P w K mg base CX0 1 fP fdP ["thing"] spPair) (kP : PySem.W.keepIn K (.ref fP) = true) (bP : Binds K fdP ["thing"] []) (gP : mg "is_pair" = some (.ref fP))
    (GN : FnOk P w K mg base CX0 1 fN fdN ["thing"] spName) (kN : PySem.W.keepIn K (.ref fN) = true) (bN : Binds K fdN ["thing"] []) (gN : mg "is_name" = some (.ref fN)) :
    FnOk P w K mg base CX0 2 f fd ["leg", "partners"] spIsLeg := by
  refine F.ok scIsLeg (fun vs H Q E h => ?_) (fun cdv A outer s H vs Q E hr h => ?_)
  · obtain ⟨v, d, p, rows, rfl, _⟩ := h
    rfl
  · obtain ⟨v, d, p, rows, rfl, hd, hp, k⟩ := h
    refine ⟨_, pss_one (ps_ret (pe_and (pe_call GP hr (by rfl) gP kP bP .nil pass0 (pa_cons (pv 0) pa_nil)) (pe_and (pe_call GN hr (by rfl) gN kN bN .nil pass0 (pa_cons (pe_ix ix_tup (pv 0) pe_int (fun _ _ => rfl)) pa_nil))
      (pe_and (pe_call GN hr (by rfl) gN kN bN .nil pass0 (pa_cons (pe_ix ix_tup (pv 0) pe_int (fun _ _ => rfl)) pa_nil)) (pe_one (pe_cmp (pc_din (hu_of hr) (pe_ix ix_tup (pv 0) pe_int (fun _ _ => rfl)) (pv 1)) rfl)))))), ?_⟩
    refine ⟨_, rfl, v, d, rfl, hd, _, rfl, ?_⟩
    by_cases hpr : pairD d = true
    · rw [hpr]
      cases hd with
      | @tup a xs ds e l r =>
        have h2 : ds.length = 2 := of_decide_eq_true hpr
        obtain ⟨v0, v1, d0, d1, ex, ed, h0, h1⟩ := r.two h2
        subst ex
        subst ed
        · skip
          have kk : ∀ H', Same H H' → Q (.bl (nameD d0 && (nameD d1 && decide (strO d1 ∈ rows.map (·.1))))) H' := k
          refine ⟨_, rfl, a, _, _, _, rfl, rfl, (TupAt.sq e), atI_nat (j := 0) rfl, v0, d0, rfl, h0, fun H1 s1 => ⟨_, rfl, ?_⟩⟩
          by_cases hn : nameD d0 = true
          · rw [hn] at kk ⊢
            rw [Bool.true_and] at kk
            refine ⟨_, rfl, a, _, _, _, rfl, rfl, (TupAt.sq (TupAt.same s1 e)), atI_nat (j := 1) rfl, v1, d1, rfl, h1.same s1, fun H2 s2 => ⟨_, rfl, ?_⟩⟩
            by_cases hm : nameD d1 = true
            · obtain ⟨x, rfl⟩ := name_str hm
              obtain ⟨rfl, _⟩ := dt_str h1
              rw [hm] at kk ⊢
              rw [Bool.true_and] at kk
              refine ⟨_, rfl, a, _, _, _, rfl, rfl, (TupAt.sq (TupAt.same s2 (TupAt.same s1 e))), atI_nat (j := 1) rfl, _, rfl, p, _, rfl, dget_rows (.inl ((s1.trans s2) _ _ hp)) x, ?_⟩
              rw [val_rows]
              exact kk _ (s1.trans s2)
            · have hm' : nameD d1 = false := by simpa using hm
              rw [hm'] at kk ⊢
              exact kk _ (s1.trans s2)
          · have hn' : nameD d0 = false := by simpa using hn
            rw [hn'] at kk ⊢
            exact kk _ s1
      | _ => cases hpr
    · have hpr' : pairD d = false := by simpa using hpr
      rw [hpr']
      have e : legD (rows.map (·.1)) d = false := by
        cases d with
        | tuple ds =>
          match ds, hpr' with
          | [], _ => rfl
          | [_], _ => rfl
          | [_, _], h => cases h
          | _ :: _ :: _ :: _, _ => rfl
        | _ => rfl
      have k2 := k H (Same.refl _)
      rw [e] at k2
      exact k2
end
end Toy
set_option Elab.async false
set_option linter.all false
set_option maxRecDepth 100000
set_option maxHeartbeats 4000000
namespace Toy
open PySem PySem.Spec PyProof.Rows L2
/-! ### kinds as a dict -/
/-- kinds, each with the place of its ends -/
def kvK (kt : KRow × Addr) : Key × V := (Sum.inr kt.1.1, .ref kt.2)
theorem kinds_pairs {K : PySem.W.Frag} {H : Hp} : ∀ {xs : List V} {ks : List KRow}, DtAll H xs (ks.map kindT) → ∃ (ps : List Addr) (kts : List (KRow × Addr)), xs = ps.map V.ref ∧ kts.map (·.1) = ks ∧ Paired (fun p kv => SqT K H p [kV kv.1, kv.2]) ps (kts.map kvK) ∧ ∀ kt ∈ kts, Dt H (.ref kt.2) (.tuple (kt.1.2.map .str))
  | _, [], .nil => ⟨[], [], rfl, rfl, .nil, fun _ z => nomatch z⟩
  | _, k :: ks, .cons h t => by
    obtain ⟨ps, kts, e1, e2, pr, ok⟩ := kinds_pairs (K := K) t
    generalize ek : kindT k = kd at h
    cases h with
    | tup e l r =>
      rename_i a xs0 ds0
      have ed : [PyData.str k.1, .tuple (k.2.map .str)] = ds0 := by
        have q : PyData.tuple [.str k.1, .tuple (k.2.map .str)] = .tuple ds0 := ek
        injection q
      subst ed
      cases r with
      | cons h1 r =>
        cases r with
        | cons h2 r =>
          cases r
          cases h1
          generalize et : PyData.tuple (k.2.map .str) = td at h2
          cases h2 with
          | tup e2' l2 r2 =>
            rename_i tp _ _
            refine ⟨a :: ps, (k, tp) :: kts, by rw [e1]; rfl, by rw [List.map_cons, e2], .cons ((TupAt.sq e)) pr, fun kt hk => ?_⟩
            rcases List.mem_cons.mp hk with z | z
            · rw [z]
              show Dt H (.ref tp) (.tuple (k.2.map .str))
              rw [et]
              exact .tup e2' l2 r2
            · exact ok kt z
          | _ => cases et
    | _ => cases ek
theorem keys_kts (kts : List (KRow × Addr)) : (kts.map kvK).map (·.1) = ((kts.map (·.1)).map (·.1)).map (Sum.inr : Str → Key) := by
  rw [List.map_map, List.map_map, List.map_map]
  rfl
theorem dict_kts {kts : List (KRow × Addr)} (h : ((kts.map (·.1)).map (·.1)).Nodup) : mergeK [] (kts.map kvK) = kts.map kvK :=
  mergeK_nodup _ [] (by rw [List.nil_append, keys_kts, inr_nodup]; exact h)
theorem val_kts : ∀ (kts : List (KRow × Addr)) (x : Str), (valV (kts.map kvK) (Sum.inr x)).isSome = decide (x ∈ (kts.map (·.1)).map (·.1))
  | [], x => rfl
  | kt :: kts, x => by
    by_cases h : kt.1.1 = x
    · rw [List.map_cons, valV_pos (p := kvK kt) (congrArg Sum.inr h)]
      have hm : x ∈ ((kt :: kts).map (·.1)).map (·.1) := by
        rw [List.map_cons, List.map_cons, h]
        exact List.mem_cons_self
      rw [decide_eq_true hm]
      rfl
    · rw [List.map_cons, valV_neg (p := kvK kt) (fun z => h (Sum.inr.inj z)), val_kts kts x]
      have e : (x ∈ ((kt :: kts).map (·.1)).map (·.1)) ↔ x ∈ (kts.map (·.1)).map (·.1) := by
        rw [List.map_cons, List.map_cons, List.mem_cons]
        exact ⟨fun z => z.elim (fun q => absurd q.symm h) id, .inr⟩
      exact decide_eq_decide.mpr e.symm
end Toy
set_option Elab.async false
set_option linter.all false
set_option maxRecDepth 100000
set_option maxHeartbeats 4000000
namespace Toy
open PySem PySem.Spec PyProof.Rows L2
/-! ### corners -/
def cornersD (keys : List Str) : PyData → Bool
  | .list ds => decide (ds.length ≤ 6) && ds.all fun d => nameD d && decide (strO d ∈ keys)
  | _ => false
/-- a stock that was made -/
structure StkG (C : Addr) (H : Hp) (a : Addr) (rows : Rows2) (ks : List KRow) : Prop where
  at_ : StkAt C H a (rows.map rowT) (ks.map kindT)
  nd : (ks.map (·.1)).Nodup
  nr : (rows.map (·.1)).Nodup
def spCorners (C : Addr) : Sp := fun vs H Q _ => ∃ (a : Addr) (rows : Rows2) (ks : List KRow) (v : V) (d : PyData), vs = [.ref a, v] ∧ StkG C H a rows ks ∧ Dt H v d ∧ ∀ H', Same H H' → Q (.bl (cornersD (ks.map (·.1)) d)) H'
section
variable {P : Program} {w : World} {K : PySem.W.Frag} {mg : Str → Option Value} {base : Heap}
theorem scCorners : FnScope ["stock", "corners", "kinds", "kind"] ["stock", "corners"] (defScope sCorners) := ⟨rfl, rfl, rfl, by decide +kernel, rfl, by decide +kernel, by decide +kernel⟩
theorem ok_corners {f fL fN fX C CN : Addr} {fd fdL fdN : FuncData} (F : Fun K "_are_corners" "_are_corners" sCorners f fd) (M : Mods mg) (T : StkC K mg C CN fX) (hmc : ∃ t, mg "MOST_CORNERS" = some (.int 6 t))
    (GL : FnOk P w K mg base CX0 1 fL fdL ["thing", "fewest", "most"] spList) (kL : PySem.W.keepIn K (.ref fL) = true) (bL : Binds K fdL ["thing", "fewest", "most"] []) (gL : mg "is_list" = some (.ref fL))
    (GN : FnOk P w K mg base CX0 1 fN fdN ["thing"] spName) (kN : PySem.W.keepIn K (.ref fN) = true) (bN : Binds K fdN ["thing"] []) (gN : mg "is_name" = some (.ref fN)) :
    FnOk P w K mg base CX0 2 f fd ["stock", "corners"] (spCorners C) := by
  obtain ⟨tc, hmc⟩ := hmc
  refine F.ok scCorners (fun vs H Q E h => ?_) (fun cdv A outer s H vs Q E hr h => ?_)
  · obtain ⟨a, rows, ks, v, d, rfl, _⟩ := h
    rfl
  · obtain ⟨a, rows, ks, v, d, rfl, sg, hd, k⟩ := h
    refine ⟨_, pss_cons (ps_if (pt_not (pt_val (pe_call GL hr (by rfl) gL kL bL .nil pass0 (pa_cons (pv 1) (pa_cons pe_int (pa_cons (pe_glob (v := .int 6) (by rfl) hmc ⟨_, rfl⟩) pa_nil)))))) (pss_one (ps_ret pe_bl)) pss_nil)
      (pss_cons (ps_set (i := 2) scCorners.nd rfl (Or.inr rfl) (pe_callTy (call_dictP rfl) (by rfl) M.dict_ (by decide +kernel) (pa_cons (pe_fld (pv 0) rfl) pa_nil)))
      (pss_one (ps_ret (pe_callB (cr_all rfl) (by rfl) M.all_ (by decide +kernel) (pa_cons (pe_lc (own := [("kind", 3)]) (g := gName 3) (tt := tYes) (te := tAndV (tCall spName [] E0 (tCons (tVar 3) tNil)) (tDIn (tVar 3) (tVar 2))) rfl scCorners.nd (pi_list (pv 1)) (blkOk_by (N := ["stock", "corners", "kinds", "kind"]) (sc := defScope sCorners) (by decide +kernel)) (fun _ _ _ _ _ => pg_name (i := 3) scCorners.nd rfl (Or.inl rfl)) (fun _ _ _ _ _ => pts_nil)
          (fun _ _ _ _ _ => (by exact pe_and (pe_call GN hr (by rfl) gN kN bN .nil pass0 (pa_cons (pv 3) pa_nil)) (pe_one (pe_cmp (pc_din (hu_of hr) (pv 3) (pv 2)) rfl))))) pa_nil))))), ?_⟩
    refine ⟨_, rfl, v, d, 0, 6, rfl, hd, _, rfl, ?_⟩
    by_cases hl : listD 0 6 d = true
    · rw [hl]
      cases hd with
      | @lst c xs ds e l r =>
        have hl2 : (decide ((0 : Int) ≤ (ds.length : Int)) && decide ((ds.length : Int) ≤ 6)) = true := hl
        rw [Bool.and_eq_true, decide_eq_true_eq, decide_eq_true_eq] at hl2
        have k' : ∀ H', Same H H' → Q (.bl (decide (ds.length ≤ 6) && ds.all fun d => nameD d && decide (strO d ∈ ks.map (·.1)))) H' := k
        rw [decide_eq_true (by omega : ds.length ≤ 6), Bool.true_and] at k'
        obtain ⟨⟨dx, sl, sm, es, dl, dm⟩, _, _⟩ := sg.at_
        obtain ⟨ms, em, lm, rm⟩ := dt_list dm
        obtain ⟨ps, kts, exs, ekt, pr, okt⟩ := kinds_pairs (K := K) rm
        subst exs
        refine ⟨_, rfl, a, C, dx, _, _, rfl, es, T.cl, T.nK, sf_kinds sl sm, sm, ps, _, rfl, SqL.of em, pr, fun dp hdp => ?_⟩
        rw [dict_kts (by rw [ekt]; exact sg.nd)]
        have t1 := same_new (o := .dK (kts.map kvK)) hdp
        have hdp1 : upd H dp (.dK (kts.map kvK)) dp = some (.dK (kts.map kvK)) := upd_same
        generalize upd H dp (.dK (kts.map kvK)) = H1 at t1 hdp1 ⊢
        refine ⟨_, rfl, c, rfl, ⟨_, SqL.of (t1 _ _ e)⟩, fun D hD => ?_⟩
        refine lc_mapW (walk_list (K := K) (a := c) (xs := xs)) (ds.map fun d => V.bl (nameD d && decide (strO d ∈ ks.map (·.1)))) (by rw [List.length_map, r.len]) l hD (fun H2 s2 => SqL.of (s2 _ _ (t1 _ _ e))) (fun i H x H' h => by rw [h.1]; exact Same.refl _) (fun i y H2 H3 R hi s2 hy hR => ?_) (fun H2 s2 hD1 => ?_)
        · obtain ⟨rfl, hy⟩ := hy
          obtain ⟨di, hdi, hDi⟩ := r.at_ hy
          refine ⟨rfl, _, rfl, y, di, rfl, hDi.same (t1.trans s2), fun H4 s4 => ⟨_, rfl, ?_⟩⟩
          by_cases hn : nameD di = true
          · obtain ⟨x, rfl⟩ := name_str hn
            obtain ⟨rfl, _⟩ := dt_str hDi
            rw [hn]
            refine ⟨_, rfl, _, rfl, dp, _, rfl, .inl ⟨_, Sum.inr x, .inl (s4 _ _ (s2 _ _ hdp1)), rfl, rfl⟩, ?_⟩
            rw [val_kts, ekt]
            exact hR _ _ (by rw [allB_at ds _ hdi, hn]; rfl) s4
          · have hn' : nameD di = false := by simpa using hn
            rw [hn']
            exact hR _ _ (by rw [allB_at ds _ hdi, hn']; rfl) s4
        · refine ⟨D, ds.map fun d => (nameD d && decide (strO d ∈ ks.map (·.1))), rfl, ?_, ?_⟩
          · rw [List.map_map]
            exact SqL.of hD1
          · rw [List.all_map]
            exact k' _ (t1.trans s2)
      | _ => cases hl
    · have hl' : listD 0 6 d = false := by simpa using hl
      rw [hl']
      have e : cornersD (ks.map (·.1)) d = false := by
        cases d with
        | list ds =>
          have h2 : (decide ((0 : Int) ≤ (ds.length : Int)) && decide ((ds.length : Int) ≤ 6)) = false := hl'
          have h3 : ¬ ds.length ≤ 6 := fun q => by
            rw [decide_eq_true (by omega), decide_eq_true (by omega)] at h2
            cases h2
          show (decide (ds.length ≤ 6) && _) = false
          rw [decide_eq_false h3, Bool.false_and]
        | _ => rfl
      have k2 := k H (Same.refl _)
      rw [e] at k2
      exact k2
end
end Toy
set_option Elab.async false
set_option linter.all false
set_option maxRecDepth 100000
set_option maxHeartbeats 2000000
namespace L2
open PySem PySem.Spec PyProof.Rows Toy
/-- sorted(xs), plain data side by side with their values -/
def rSortD (K : PySem.W.Frag) : List V → Hp → VK → Prop := fun vs H Q => ∃ (a : Addr) (zs : List (PyData × V)), vs = [V.ref a] ∧ SqL K H a (zs.map (·.2)) ∧ (∀ z ∈ zs, Dp K H z.2 z.1 ∧ PyData.depth z.1 ≤ 20) ∧
  PySem.W.AllAlike (zs.map (·.1)) ∧ PySem.W.Sortable (zs.map (·.1)) ∧ zs.length ≤ 1000 ∧ ∀ p, H p = none → Q (.ref p) (upd H p (.lst ((zs.mergeSort (PySem.W.dataLe false (·.1))).map (·.2))))
section
variable {X : Cx}
theorem cr_sortD (hu : X.A.units + 64 < cLine) : CallR X (.builtin "sorted") (rSortD X.K) := by
  intro pins s σ H xs us Q I r h
  obtain ⟨a, zs, rfl, hs, hz, al, so, l1, q⟩ := h
  obtain ⟨its, rv, hl, _⟩ := I.list hs
  rw [Vals.ref1 r]
  have each : ∀ {zs : List (PyData × V)} {its : List Value}, Vals (zs.map (·.2)) its → PySem.W.EachIs (fun v (b : PyData × V) => RelV b.2 v) its zs := by
    intro zs
    induction zs with
    | nil => exact fun v => by cases v; exact .nil
    | cons z zs ih =>
      intro its v
      cases v with
      | cons r t => exact .cons r (ih t)
  have reads : PySem.W.EachIs (fun v (b : PyData × V) => ∃ as, Reads s.heap v b.1 as) its zs := by
    have key : ∀ {zs : List (PyData × V)} {its : List Value}, Vals (zs.map (·.2)) its → (∀ z ∈ zs, Dp X.K H z.2 z.1) → PySem.W.EachIs (fun v (b : PyData × V) => ∃ as, Reads s.heap v b.1 as) its zs := by
      intro zs
      induction zs with
      | nil => exact fun v _ => by cases v; exact .nil
      | cons z zs ih =>
        intro its v hd
        cases v with
        | cons r t => exact .cons (Dp.reads I _ _ _ (hd z List.mem_cons_self) r) (ih t fun y hy => hd y (List.mem_cons_of_mem _ hy))
    exact key rv fun z hz' => (hz z hz').1
  have back : ∀ {zs : List (PyData × V)} {out : List Value}, PySem.W.EachIs (fun v (b : PyData × V) => RelV b.2 v) out zs → Vals (zs.map (·.2)) out := by
    intro zs out e
    induction e with
    | nil => exact .nil
    | cons r _ ih => exact .cons r ih
  have big : zs.length ≤ sizeLine := Nat.le_trans l1 (by decide)
  refine PySem.W.sorted_data (enc := (·.1)) (R := fun v (b : PyData × V) => RelV b.2 v) hl.isList (each rv) reads al so big (fun b hb => ?_) fun out ho e => ?_
  · have := (hz b hb).2
    omega
  · obtain ⟨ep, at_⟩ := PyProof.Rows.sortedAll_at s.heap its out.toArray
    have lz : ((zs.mergeSort (PySem.W.dataLe false (·.1))).map (·.2)).length ≤ sizeLine := by
      rw [List.length_map, List.length_mergeSort]
      exact big
    exact ⟨.ref _, upd H (s.heap.objs.size + 1) (.lst ((zs.mergeSort (PySem.W.dataLe false (·.1))).map (·.2))), I.laid (t' := s.toks) (fun _ _ => PyProof.Rows.sortedAll_old) (Nat.le_succ _) ⟨lz, _, ep, back e, at_⟩, rfl, q _ (I.hok.fresh (Nat.le_succ _))⟩
end
end L2
set_option Elab.async false
set_option linter.all false
set_option maxRecDepth 100000
set_option maxHeartbeats 2000000
namespace L2
open PySem PySem.Spec PyProof.Rows Toy
/-- a < b and a <= b of alike plain data -/
def rOrdD (K : PySem.W.Frag) (f : PyData → PyData → Bool) : R2 := fun x y H Q => ∃ d e, Dp K H x d ∧ Dp K H y e ∧ PySem.W.alike d e = true ∧ d ≠ .none ∧ PyData.depth d ≤ 20 ∧ Q (.bl (f d e)) H
section
variable {X : Cx}
theorem op_ltD (hu : X.A.units + 64 < cLine) : OpR X (compareOp .Lt) (rOrdD X.K PySem.W.dataLt) := by
  intro pins z σ H x y v u Q I rx ry hh
  obtain ⟨d, e, h1, h2, al, nn, dep, q⟩ := hh
  obtain ⟨as, ra⟩ := Dp.reads I _ _ _ h1 rx
  obtain ⟨bs, rb⟩ := Dp.reads I _ _ _ h2 ry
  exact PySem.W.lt_data ra rb al nn (by omega) ⟨.bl _, H, I, rfl, q⟩
theorem op_leD (hu : X.A.units + 64 < cLine) : OpR X (compareOp .LtE) (rOrdD X.K fun d e => !PySem.W.dataLt e d) := by
  intro pins z σ H x y v u Q I rx ry hh
  obtain ⟨d, e, h1, h2, al, nn, dep, q⟩ := hh
  obtain ⟨as, ra⟩ := Dp.reads I _ _ _ h1 rx
  obtain ⟨bs, rb⟩ := Dp.reads I _ _ _ h2 ry
  exact PySem.W.le_data ra rb al nn (by omega) ⟨.bl _, H, I, rfl, q⟩
/-- the least (the greatest) of a tuple of alike plain data, data side by side with their values -/
def rBestT (K : PySem.W.Frag) (best : PyData → List PyData → PyData) : List V → Hp → VK → Prop := fun vs H Q => ∃ (a : Addr) (z : PyData × V) (zs : List (PyData × V)), vs = [V.ref a] ∧ SqT K H a ((z :: zs).map (·.2)) ∧ (∀ y ∈ z :: zs, Dp K H y.2 y.1) ∧
  PySem.W.AlikeAll ((z :: zs).map (·.1)) ∧ PyData.depthAll ((z :: zs).map (·.1)) ≤ 20 ∧ ∀ y ∈ z :: zs, y.1 = best z.1 (zs.map (·.1)) → Q y.2 H
theorem best_in (f : PyData → PyData → Bool) : ∀ (xs : List PyData) (x : PyData), xs.foldl (fun a y => if f y a = true then y else a) x ∈ x :: xs
  | [], x => List.mem_cons_self
  | y :: ys, x => by
    rw [List.foldl_cons]
    have h := best_in f ys (if f y x = true then y else x)
    rcases List.mem_cons.mp h with e | m
    · rw [e]
      split
      · exact List.mem_cons_of_mem _ List.mem_cons_self
      · exact List.mem_cons_self
    · exact List.mem_cons_of_mem _ (List.mem_cons_of_mem _ m)
theorem reads_zip {pins : List (Addr × Obj)} {s : Shared} {σ : L2.St} {H : Hp} (I : Inv X pins σ H s) : ∀ {zs : List (PyData × V)} {its : List Value}, Vals (zs.map (·.2)) its → (∀ z ∈ zs, Dp X.K H z.2 z.1) → ∃ as, ReadsAll s.heap its (zs.map (·.1)) as := by
  intro zs
  induction zs with
  | nil => exact fun v _ => by cases v; exact ⟨[], .nil⟩
  | cons z zs ih =>
    intro its v hd
    cases v with
    | cons r t =>
      obtain ⟨as, ra⟩ := Dp.reads I _ _ _ (hd z List.mem_cons_self) r
      obtain ⟨bs, rb⟩ := ih t fun y hy => hd y (List.mem_cons_of_mem _ hy)
      exact ⟨as ++ bs, .cons ra rb⟩
theorem vals_at : ∀ {xs : List V} {us : List Value} {i : Nat} {u : Value}, Vals xs us → us[i]? = some u → ∃ x, xs[i]? = some x ∧ RelV x u
  | _, _, i, _, .nil, e => by simp at e
  | _, _, 0, _, .cons r _, e => by cases e; exact ⟨_, rfl, r⟩
  | _, _, i + 1, _, .cons _ t, e => vals_at (i := i) t (by rw [List.getElem?_cons_succ] at e; exact e)
theorem cr_minT (hc : X.calm = true) (hu : X.A.units + 64 < cLine) : CallR X (.builtin "min") (rBestT X.K PySem.W.minD) := by
  intro pins s σ H xs us Q I r h
  obtain ⟨a, z, zs, rfl, hs, hd, al, dep, q⟩ := h
  obtain ⟨its, rv, hl, _⟩ := I.tuple hs
  rw [Vals.ref1 r]
  obtain ⟨as, ra⟩ := reads_zip I rv hd
  refine PySem.W.min_tuple_data (vs := its.toArray) (I.ok.hd hc) hl (by exact ra) (by exact al) (by have d2 : PyData.depthAll (z.1 :: zs.map (·.1)) ≤ 20 := dep; exact Nat.lt_of_le_of_lt (Nat.add_le_add_left d2 _) (by omega)) fun i v h' tk bs hv rd hk => ?_
  rw [List.getElem?_toArray] at hv
  obtain ⟨x, hx, rx⟩ := vals_at rv hv
  rw [List.getElem?_map] at hx
  cases e : (z :: zs)[i]? with
  | none =>
    rw [e] at hx
    cases hx
  | some y =>
    rw [e] at hx
    cases hx
    have hy := List.mem_of_getElem? e
    refine ⟨y.2, H, I.kept (h' := h') (t' := tk) hk, rx, q y hy ?_⟩
    obtain ⟨cs, rc⟩ := Dp.reads I _ _ _ (hd y hy) rx
    exact PySem.W.alike_unique y.1 _ v _ _ (al.1 _ (List.mem_map_of_mem (f := (·.1)) hy) _ (by exact best_in PySem.W.dataLt (zs.map (fun y => y.1)) z.1)) (Reads.keeps hk rc) rd
theorem cr_maxT (hc : X.calm = true) (hu : X.A.units + 64 < cLine) : CallR X (.builtin "max") (rBestT X.K PySem.W.maxD) := by
  intro pins s σ H xs us Q I r h
  obtain ⟨a, z, zs, rfl, hs, hd, al, dep, q⟩ := h
  obtain ⟨its, rv, hl, _⟩ := I.tuple hs
  rw [Vals.ref1 r]
  obtain ⟨as, ra⟩ := reads_zip I rv hd
  refine PySem.W.max_tuple_data (vs := its.toArray) (I.ok.hd hc) hl (by exact ra) (by exact al) (by have d2 : PyData.depthAll (z.1 :: zs.map (·.1)) ≤ 20 := dep; exact Nat.lt_of_le_of_lt (Nat.add_le_add_left d2 _) (by omega)) fun i v h' tk bs hv rd hk => ?_
  rw [List.getElem?_toArray] at hv
  obtain ⟨x, hx, rx⟩ := vals_at rv hv
  rw [List.getElem?_map] at hx
  cases e : (z :: zs)[i]? with
  | none =>
    rw [e] at hx
    cases hx
  | some y =>
    rw [e] at hx
    cases hx
    have hy := List.mem_of_getElem? e
    refine ⟨y.2, H, I.kept (h' := h') (t' := tk) hk, rx, q y hy ?_⟩
    obtain ⟨cs, rc⟩ := Dp.reads I _ _ _ (hd y hy) rx
    exact PySem.W.alike_unique y.1 _ v _ _ (al.1 _ (List.mem_map_of_mem (f := (·.1)) hy) _ (by exact best_in (fun a b => PySem.W.dataLt b a) (zs.map (fun y => y.1)) z.1)) (Reads.keeps hk rc) rd
end
end L2
set_option Elab.async false
set_option linter.all false
set_option maxRecDepth 100000
set_option maxHeartbeats 4000000
namespace Toy
open PySem PySem.Spec PyProof.Rows L2
/-! ### legs -/
def sortD (ds : List PyData) : List PyData := ds.mergeSort (PySem.W.dataLe false id)
def legsD (keys : List Str) : PyData → Bool
  | .list ds => decide (ds.length ≤ 6) && (ds.all (legD keys) && (PyData.eqv (.list ds) (.list (sortD ds)) && decide (ds.map name0).Nodup))
  | _ => false
def spLegs (C : Addr) : Sp := fun vs H Q _ => ∃ (a : Addr) (rows : Rows2) (ks : List KRow) (v : V) (d : PyData), vs = [.ref a, v] ∧ StkG C H a rows ks ∧ Dt H v d ∧ ∀ H', Same H H' → Q (.bl (legsD (rows.map (·.1)) d)) H'
theorem leg_row {keys : List Str} {d : PyData} (h : legD keys d = true) : ∃ r : Str × Str, d = rowT r := by
  match d, h with
  | .tuple [a, b], h =>
    have h2 : (nameD a && (nameD b && decide (strO b ∈ keys))) = true := h
    rw [Bool.and_eq_true, Bool.and_eq_true] at h2
    obtain ⟨x, rfl⟩ := name_str h2.1
    obtain ⟨y, rfl⟩ := name_str h2.2.1
    exact ⟨(x, y), rfl⟩
theorem legs_rows {keys : List Str} : ∀ {ds : List PyData}, (∀ d ∈ ds, legD keys d = true) → ∃ rs : Rows2, ds = rs.map rowT
  | [], _ => ⟨[], rfl⟩
  | d :: ds, h => by
    obtain ⟨r, rfl⟩ := leg_row (h d List.mem_cons_self)
    obtain ⟨rs, rfl⟩ := legs_rows fun x hx => h x (List.mem_cons_of_mem _ hx)
    exact ⟨r :: rs, rfl⟩
theorem alike_rows (rs : Rows2) : PySem.W.AllAlike (rs.map rowT) := PySem.W.AllAlike.of fun b b' => by
  show PySem.W.alike (.tuple [.str b.1, .str b.2]) (.tuple [.str b'.1, .str b'.2]) = true
  simp [PySem.W.alike, PySem.W.alikeAll]
theorem sortable_rows (rs : Rows2) : PySem.W.Sortable (rs.map rowT) := PySem.W.Sortable.tuples fun b => ⟨.str b.1, [.str b.2], rfl⟩
theorem zip_fst : ∀ {H : Hp} {xs : List V} {ds : List PyData}, DtAll H xs ds → (ds.zip xs).map (·.1) = ds ∧ (ds.zip xs).map (·.2) = xs
  | _, _, _, .nil => ⟨rfl, rfl⟩
  | _, _, _, .cons h t => by
    obtain ⟨e1, e2⟩ := zip_fst t
    rw [List.zip_cons_cons, List.map_cons, List.map_cons, e1, e2]
    exact ⟨rfl, rfl⟩
theorem zip_dt : ∀ {H : Hp} {xs : List V} {ds : List PyData}, DtAll H xs ds → ∀ z ∈ ds.zip xs, Dt H z.2 z.1
  | _, _, _, .nil => fun _ z => nomatch z
  | _, _, _, .cons h t => fun z hz => by
    rw [List.zip_cons_cons] at hz
    rcases List.mem_cons.mp hz with e | m
    · rw [e]
      exact h
    · exact zip_dt t z m
theorem dts_of {H : Hp} : ∀ {zs : List (PyData × V)}, (∀ z ∈ zs, Dt H z.2 z.1) → DtAll H (zs.map (·.2)) (zs.map (·.1))
  | [], _ => .nil
  | z :: zs, h => .cons (h z List.mem_cons_self) (dts_of fun y hy => h y (List.mem_cons_of_mem _ hy))
theorem sort_fst (zs : List (PyData × V)) : (zs.mergeSort (PySem.W.dataLe false (·.1))).map (·.1) = sortD (zs.map (·.1)) := by
  unfold sortD
  exact List.map_mergeSort fun a _ b _ => rfl
/-- sorted(xs) of a list of data -/
theorem sort_ok {K : PySem.W.Frag} {H : Hp} {Q : VK} {a : Addr} {ds : List PyData} (h : Dt H (.ref a) (.list ds)) (low : ∀ d ∈ ds, noDict d = true ∧ PyData.depth d ≤ 20) (al : PySem.W.AllAlike ds) (so : PySem.W.Sortable ds)
    (q : ∀ p H', Dt H' (.ref p) (.list (sortD ds)) → Same H H' → Q (.ref p) H') : rSortD K [.ref a] H Q := by
  obtain ⟨xs, e, l, r⟩ := dt_list h
  obtain ⟨e1, e2⟩ := zip_fst r
  have zd := zip_dt r
  have mem1 : ∀ z ∈ ds.zip xs, z.1 ∈ ds := fun z hz => by rw [← e1]; exact List.mem_map_of_mem (f := (·.1)) hz
  have lz : (ds.zip xs).length = xs.length := by rw [← List.length_map (f := (·.2)), e2]
  refine ⟨a, ds.zip xs, rfl, by rw [e2]; exact SqL.of e, fun z hz => ⟨(zd z hz).dp (low _ (mem1 z hz)).1, (low _ (mem1 z hz)).2⟩, by rw [e1]; exact al, by rw [e1]; exact so, by omega, fun p np => ?_⟩
  have t := same_new (o := .lst (((ds.zip xs).mergeSort (PySem.W.dataLe false (·.1))).map (·.2))) np
  refine q p _ ?_ t
  have d2 := dts_of (H := H) (zs := (ds.zip xs).mergeSort (PySem.W.dataLe false (·.1))) fun z hz => zd z (List.mem_mergeSort.mp hz)
  rw [sort_fst, e1] at d2
  exact .lst upd_same (by rw [List.length_map, List.length_mergeSort, lz]; exact l) (d2.same t)
end Toy
set_option Elab.async false
set_option linter.all false
set_option maxRecDepth 100000
set_option maxHeartbeats 4000000
namespace Toy
open PySem PySem.Spec PyProof.Rows L2
theorem rows_pairs {K : PySem.W.Frag} {H : Hp} : ∀ {xs : List V} {rows : Rows2}, DtAll H xs (rows.map rowT) → ∃ ps : List Addr, xs = ps.map V.ref ∧ Paired (fun p kv => SqT K H p [kV kv.1, kv.2]) ps (rows.map kvOf)
  | _, [], .nil => ⟨[], rfl, .nil⟩
  | _, r :: rows, .cons h t => by
    obtain ⟨ps, e1, pr⟩ := rows_pairs (K := K) t
    generalize ek : rowT r = kd at h
    cases h with
    | tup e l rr =>
      rename_i a xs0 ds0
      have ed : [PyData.str r.1, .str r.2] = ds0 := by
        have q : PyData.tuple [.str r.1, .str r.2] = .tuple ds0 := ek
        injection q
      subst ed
      cases rr with
      | cons h1 rr =>
        cases rr with
        | cons h2 rr =>
          cases rr
          cases h1
          cases h2
          exact ⟨a :: ps, by rw [e1]; rfl, .cons ((TupAt.sq e)) pr⟩
    | _ => cases ek
theorem low_row (r : Str × Str) : noDict (rowT r) = true ∧ PyData.depth (rowT r) ≤ 1 := by
  show noDict (.tuple [.str r.1, .str r.2]) = true ∧ PyData.depth (.tuple [.str r.1, .str r.2]) ≤ 1
  simp [noDict, noDicts, PyData.depth, PyData.depthAll]
theorem flat_rows {ds : List PyData} {rs : Rows2} (e : ds = rs.map rowT) : Flat ds := by
  subst e
  exact ⟨noDicts_all fun d hd => by obtain ⟨r, _, rfl⟩ := List.mem_map.mp hd; exact (low_row r).1, depth_all fun d hd => by obtain ⟨r, _, rfl⟩ := List.mem_map.mp hd; exact Nat.le_trans (low_row r).2 (by decide)⟩
theorem sort_rows (rs : Rows2) : ∃ rs' : Rows2, sortD (rs.map rowT) = rs'.map rowT := by
  unfold sortD
  refine ⟨rs.mergeSort fun a b => PySem.W.dataLe false id (rowT a) (rowT b), ?_⟩
  exact (List.map_mergeSort (f := rowT) fun a _ b _ => rfl).symm
section
variable {P : Program} {w : World} {K : PySem.W.Frag} {mg : Str → Option Value} {base : Heap}
theorem scLegs : FnScope ["stock", "legs", "partners", "leg"] ["stock", "legs"] (defScope sLegs) := ⟨rfl, rfl, rfl, by decide +kernel, rfl, by decide +kernel, by decide +kernel⟩
theorem ok_legs {f fL fI fU fX C CN : Addr} {fd fdL fdI fdU : FuncData} (F : Fun K "_are_legs" "_are_legs" sLegs f fd) (M : Mods mg) (T : StkC K mg C CN fX) (hml : ∃ t, mg "MOST_LEGS" = some (.int 6 t))
    (GL : FnOk P w K mg base CX0 1 fL fdL ["thing", "fewest", "most"] spList) (kL : PySem.W.keepIn K (.ref fL) = true) (bL : Binds K fdL ["thing", "fewest", "most"] []) (gL : mg "is_list" = some (.ref fL))
    (GI : FnOk P w K mg base CX0 2 fI fdI ["leg", "partners"] spIsLeg) (kI : PySem.W.keepIn K (.ref fI) = true) (bI : Binds K fdI ["leg", "partners"] []) (gI : mg "_is_leg" = some (.ref fI))
    (GU : FnOk P w K mg base CX0 1 fU fdU ["things"] (spUnlike K)) (kU : PySem.W.keepIn K (.ref fU) = true) (bU : Binds K fdU ["things"] []) (gU : mg "are_unlike" = some (.ref fU)) :
    FnOk P w K mg base CX0 3 f fd ["stock", "legs"] (spLegs C) := by
  obtain ⟨tc, hml⟩ := hml
  refine F.ok scLegs (fun vs H Q E h => ?_) (fun cdv A outer s H vs Q E hr h => ?_)
  · obtain ⟨a, rows, ks, v, d, rfl, _⟩ := h
    rfl
  · obtain ⟨a, rows, ks, v, d, rfl, sg, hd, k⟩ := h
    have hr1 : Room 1 (A.deeper (envOfC "_are_legs" (defScope sLegs) s.heap.objs.size f cdv)) := hr.mono (by decide)
    refine ⟨_, pss_cons (ps_if (pt_not (pt_val (pe_call GL hr1 (by rfl) gL kL bL .nil pass0 (pa_cons (pv 1) (pa_cons pe_int (pa_cons (pe_glob (v := .int 6) (by rfl) hml ⟨_, rfl⟩) pa_nil)))))) (pss_one (ps_ret pe_bl)) pss_nil)
      (pss_cons (ps_set (i := 2) scLegs.nd rfl (Or.inr rfl) (pe_callTy (call_dictP rfl) (by rfl) M.dict_ (by decide +kernel) (pa_cons (pe_fld (pv 0) rfl) pa_nil)))
      (pss_cons (ps_if (pt_not (pt_val (pe_callB (cr_all rfl) (by rfl) M.all_ (by decide +kernel) (pa_cons (pe_lc (own := [("leg", 3)]) (g := gName 3) (tt := tYes) (te := tCall spIsLeg [] E0 (tCons (tVar 3) (tCons (tVar 2) tNil))) rfl scLegs.nd (pi_list (pv 1)) (blkOk_by (N := ["stock", "legs", "partners", "leg"]) (sc := defScope sLegs) (by decide +kernel)) (fun _ _ _ _ _ => pg_name (i := 3) scLegs.nd rfl (Or.inl rfl)) (fun _ _ _ _ _ => pts_nil)
          (fun _ _ _ _ _ => (by exact pe_call GI hr (by rfl) gI kI bI .nil pass0 (pa_cons (pv 3) (pa_cons (pv 2) pa_nil))))) pa_nil)))) (pss_one (ps_ret pe_bl)) pss_nil)
      (pss_one (ps_ret (pe_and (pe_cmpR (op_eqD hr.units) (pv 1) (pe_callB (cr_sortD hr.units) (by rfl) M.srt (by decide +kernel) (pa_cons (pv 1) pa_nil)) (nomark _)) (pe_one (pe_call GU hr1 (by rfl) gU kU bU .nil pass0 (pa_cons (pe_lc (own := [("leg", 3)]) (g := gName 3) (tt := tYes) (te := tOp (rIxT K) (tVar 3) (tC (.int 0))) rfl scLegs.nd (pi_list (pv 1)) (blkOk_by (N := ["stock", "legs", "partners", "leg"]) (sc := defScope sLegs) (by decide +kernel)) (fun _ _ _ _ _ => pg_name (i := 3) scLegs.nd rfl (Or.inl rfl)) (fun _ _ _ _ _ => pts_nil)
          (fun _ _ _ _ _ => (by exact pe_ix ix_tup (pv 3) pe_int (fun _ _ => rfl)))) pa_nil)))))))), ?_⟩
    refine ⟨_, rfl, v, d, 0, 6, rfl, hd, _, rfl, ?_⟩
    by_cases hl : listD 0 6 d = true
    · rw [hl]
      cases hd with
      | @lst c xs ds e l r =>
        have hl2 : (decide ((0 : Int) ≤ (ds.length : Int)) && decide ((ds.length : Int) ≤ 6)) = true := hl
        rw [Bool.and_eq_true, decide_eq_true_eq, decide_eq_true_eq] at hl2
        have k' : ∀ H', Same H H' → Q (.bl (decide (ds.length ≤ 6) && (ds.all (legD (rows.map (·.1))) && (PyData.eqv (.list ds) (.list (sortD ds)) && decide (ds.map name0).Nodup)))) H' := k
        rw [decide_eq_true (by omega : ds.length ≤ 6), Bool.true_and] at k'
        obtain ⟨⟨dx, sl, sm, es, dl, dm⟩, _, _⟩ := sg.at_
        obtain ⟨ms, em, lm, rm⟩ := dt_list dl
        obtain ⟨ps, exs, pr⟩ := rows_pairs (K := K) rm
        subst exs
        refine ⟨_, rfl, a, C, dx, _, _, rfl, es, T.cl, T.nS, sf_sorts sl sm, sl, ps, _, rfl, SqL.of em, pr, fun dp hdp => ?_⟩
        rw [dict_is sg.nr]
        have t1 := same_new (o := .dK (rows.map kvOf)) hdp
        have hdp1 : upd H dp (.dK (rows.map kvOf)) dp = some (.dK (rows.map kvOf)) := upd_same
        generalize upd H dp (.dK (rows.map kvOf)) = H0 at t1 hdp1 ⊢
        refine ⟨_, rfl, c, rfl, ⟨_, SqL.of (t1 _ _ e)⟩, fun D hD => ?_⟩
        refine lc_mapW (walk_list (K := K) (a := c) (xs := xs)) (ds.map fun d => V.bl (legD (rows.map (·.1)) d)) (by rw [List.length_map, r.len]) l hD (fun H1 s1 => SqL.of (s1 _ _ (t1 _ _ e))) (fun i H x H' h => by rw [h.1]; exact Same.refl _) (fun i y H1 H2 R hi s1 hy hR => ?_) (fun H1 s1 hD1 => ?_)
        · obtain ⟨rfl, hy⟩ := hy
          obtain ⟨di, hdi, hDi⟩ := r.at_ hy
          exact ⟨rfl, _, rfl, _, rfl, y, di, dp, rows, rfl, hDi.same (t1.trans s1), s1 _ _ hdp1, fun H3 s3 => hR _ _ (allB_at ds _ hdi) s3⟩
        · have s01 := t1.trans s1
          refine ⟨D, ds.map (legD (rows.map (·.1))), rfl, ?_, _, rfl, ?_⟩
          · rw [List.map_map]
            exact SqL.of hD1
          · rw [List.all_map]
            have eall : (ds.all (id ∘ legD (rows.map (·.1)))) = ds.all (legD (rows.map (·.1))) := rfl
            rw [eall]
            by_cases hall : ds.all (legD (rows.map (·.1))) = true
            · rw [hall] at k' ⊢
              rw [Bool.true_and] at k'
              have hall2 := List.all_eq_true.mp hall
              obtain ⟨rs, ers⟩ := legs_rows hall2
              have dc : Dt H1 (.ref c) (.list ds) := .lst (s01 _ _ e) l (r.same s01)
              have lowd : ∀ d ∈ ds, noDict d = true ∧ PyData.depth d ≤ 20 := fun d hd => by
                rw [ers] at hd
                obtain ⟨r, _, rfl⟩ := List.mem_map.mp hd
                exact ⟨(low_row r).1, Nat.le_trans (low_row r).2 (by decide)⟩
              refine ⟨_, rfl, _, rfl, ?_⟩
              delta tNil
              dsimp only
              refine sort_ok dc lowd (by rw [ers]; exact alike_rows rs) (by rw [ers]; exact sortable_rows rs) fun p H2 dp2 s2 => ?_
              obtain ⟨rs', ers'⟩ := sort_rows rs
              have f1 : Flat ds := flat_rows ers
              have f2 : Flat (sortD ds) := flat_rows (rs := rs') (by rw [ers, ers'])
              obtain ⟨ys, ey, ly, ry⟩ := dt_list dp2
              refine ⟨.list ds, .list (sortD ds), (dc.same s2).dp f1.nd, dp2.dp f2.nd, f1.shape r, f2.shape ry, _, rfl, ?_⟩
              by_cases heq : PyData.eqv (.list ds) (.list (sortD ds)) = true
              · rw [heq] at k' ⊢
                rw [Bool.true_and] at k'
                have s02 := s01.trans s2
                refine ⟨_, rfl, c, rfl, ⟨_, SqL.of (s02 _ _ e)⟩, fun D2 hD2 => ?_⟩
                refine lc_mapW (walk_list (K := K) (a := c) (xs := xs)) ((ds.map name0).map V.str) (by rw [List.length_map, List.length_map, r.len]) l hD2 (fun H3 s3 => SqL.of (s3 _ _ (s02 _ _ e))) (fun i H x H' h => by rw [h.1]; exact Same.refl _) (fun i y H3 H4 R hi s3 hy hR => ?_) (fun H3 s3 hD3 => ?_)
                · obtain ⟨rfl, hy⟩ := hy
                  obtain ⟨di, hdi, hDi⟩ := r.at_ hy
                  obtain ⟨rr, err⟩ := leg_row (hall2 di (List.mem_of_getElem? hdi))
                  have s03 := s02.trans s3
                  rw [err] at hDi
                  obtain ⟨b, rr2, hm, ey2, eb⟩ := row_mem (rows := [rr]) (xs := [y]) (.cons hDi .nil) List.mem_cons_self
                  rw [List.mem_singleton.mp hm] at eb
                  subst ey2
                  refine ⟨rfl, _, rfl, b, _, _, _, rfl, rfl, (TupAt.sq (TupAt.same s03 eb)), atI_nat (j := 0) rfl, hR _ _ ?_ (Same.refl _)⟩
                  rw [List.getElem?_map, List.getElem?_map, hdi, err]
                  rfl
                · refine ⟨D2, ds.map name0, rfl, SqL.of hD3, by rw [List.length_map]; omega, ?_⟩
                  exact k' _ (s02.trans s3)
              · have heq' : PyData.eqv (.list ds) (.list (sortD ds)) = false := by simpa using heq
                rw [heq'] at k' ⊢
                exact k' _ (s01.trans s2)
            · have hall' : ds.all (legD (rows.map (·.1))) = false := by simpa using hall
              rw [hall'] at k' ⊢
              exact k' _ s01
      | _ => cases hl
    · have hl' : listD 0 6 d = false := by simpa using hl
      rw [hl']
      have e : legsD (rows.map (·.1)) d = false := by
        cases d with
        | list ds =>
          have h2 : (decide ((0 : Int) ≤ (ds.length : Int)) && decide ((ds.length : Int) ≤ 6)) = false := hl'
          have h3 : ¬ ds.length ≤ 6 := fun q => by
            rw [decide_eq_true (by omega), decide_eq_true (by omega)] at h2
            cases h2
          show (decide (ds.length ≤ 6) && _) = false
          rw [decide_eq_false h3, Bool.false_and]
        | _ => rfl
      have k2 := k H (Same.refl _)
      rw [e] at k2
      exact k2
end
end Toy
set_option Elab.async false
set_option linter.all false
set_option maxRecDepth 100000
set_option maxHeartbeats 4000000
namespace Toy
open PySem PySem.Spec PyProof.Rows L2
/-! ### corners and legs, or the refusal -/
structure NoDrC (K : PySem.W.Frag) (mg : Str → Option Value) (CN fX : Addr) : Prop where
  ox : OexC K CN
  noP : PySem.W.findIn K (.ref CN) "part" = some none
  ini : PySem.W.findIn K (.ref CN) "__init__" = some (some (.ref fX))
  fun_ : PySem.W.typeIn K (.ref fX) = some (.type "function")
  mgN : mg "NoDrawing" = some (.ref CN)
def spPlaces (C CN : Addr) : Sp := fun vs H Q E => ∃ (a : Addr) (rows : Rows2) (ks : List KRow) (cv lv : V) (cd ld : PyData), vs = [.ref a, cv, lv] ∧ StkG C H a rows ks ∧ Dt H cv cd ∧ Dt H lv ld ∧
  (cornersD (ks.map (·.1)) cd = false → ∀ H' d, H d = none → Same H H' → H' d = some (.xd [("part", .str "corners")]) → E (.ref CN) (some d) H') ∧
  (cornersD (ks.map (·.1)) cd = true → legsD (rows.map (·.1)) ld = false → ∀ H' d, H d = none → Same H H' → H' d = some (.xd [("part", .str "legs")]) → E (.ref CN) (some d) H') ∧
  (cornersD (ks.map (·.1)) cd = true → legsD (rows.map (·.1)) ld = true → ∀ H', Same H H' → Q .non H')
theorem StkG.same {C : Addr} {H H' : Hp} {a : Addr} {rows : Rows2} {ks : List KRow} (x : StkG C H a rows ks) (s : Same H H') : StkG C H' a rows ks := ⟨x.at_.same s, x.nd, x.nr⟩
section
variable {P : Program} {w : World} {K : PySem.W.Frag} {mg : Str → Option Value} {base : Heap}
theorem scPlaces : FnScope ["stock", "corners", "legs"] ["stock", "corners", "legs"] (defScope sPlaces) := ⟨rfl, rfl, rfl, by decide +kernel, rfl, by decide +kernel, by decide +kernel⟩
theorem ok_places {f fC fL fX C CN : Addr} {fd fdC fdL fdX : FuncData} (F : Fun K "check_places" "check_places" sPlaces f fd) (N : NoDrC K mg CN fX)
    (GC : FnOk P w K mg base CX0 2 fC fdC ["stock", "corners"] (spCorners C)) (kC : PySem.W.keepIn K (.ref fC) = true) (bC : Binds K fdC ["stock", "corners"] []) (gC : mg "_are_corners" = some (.ref fC))
    (GL : FnOk P w K mg base CX0 3 fL fdL ["stock", "legs"] (spLegs C)) (kL : PySem.W.keepIn K (.ref fL) = true) (bL : Binds K fdL ["stock", "legs"] []) (gL : mg "_are_legs" = some (.ref fL))
    (GX : FnOk P w K mg base CX0 1 fX fdX ["self", "part"] (spExI CN "part")) (bX : Binds K fdX ["self", "part"] []) :
    FnOk P w K mg base (L2.CX P w) 4 f fd ["stock", "corners", "legs"] (spPlaces C CN) := by
  refine F.okX scPlaces (fun vs H Q E h => ?_) (fun cdv A outer s H vs Q E hr h => ?_)
  · obtain ⟨a, rows, ks, cv, lv, cd, ld, rfl, _⟩ := h
    rfl
  · obtain ⟨a, rows, ks, cv, lv, cd, ld, rfl, sg, hc, hl, no1, no2, yes⟩ := h
    have hr2 : Room 2 _ := hr.mono (by decide)
    refine ⟨_, pss_cons (ps_if (pt_not (pt_val (pe_call GC hr2 (by rfl) gC kC bC .nil pass0 (pa_cons (pv 0) (pa_cons (pv 1) pa_nil))))) (pss_one (ps_raise rfl (takes_of rfl rfl rfl rfl) (pmk_oex N.ox N.ini N.fun_ GX hr2 bX .nil pass0 (by rfl) N.mgN (pa_cons pe_str pa_nil)))) pss_nil)
      (pss_one (ps_if (pt_not (pt_val (pe_call GL hr (by rfl) gL kL bL .nil pass0 (pa_cons (pv 0) (pa_cons (pv 2) pa_nil))))) (pss_one (ps_raise rfl (takes_of rfl rfl rfl rfl) (pmk_oex N.ox N.ini N.fun_ GX hr2 bX .nil pass0 (by rfl) N.mgN (pa_cons pe_str pa_nil)))) pss_nil)), ?_⟩
    refine ⟨_, rfl, _, rfl, a, rows, ks, cv, cd, rfl, sg, hc, fun H1 s1 => ⟨_, rfl, ?_⟩⟩
    by_cases h1 : cornersD (ks.map (·.1)) cd = true
    · rw [h1]
      refine ⟨_, rfl, _, rfl, a, rows, ks, lv, ld, rfl, sg.same s1, hl.same s1, fun H2 s2 => ⟨_, rfl, ?_⟩⟩
      have s12 := s1.trans s2
      by_cases h2 : legsD (rows.map (·.1)) ld = true
      · rw [h2]
        exact yes h1 h2 _ s12
      · have h2' : legsD (rows.map (·.1)) ld = false := by simpa using h2
        rw [h2']
        refine ⟨by show 1 ≤ 1000; decide, fun a2 na => ⟨a2, _, rfl, upd_same, fun d nd ne => ⟨rfl, d, _, upd_same, (by rw [upd_ne ne, upd_same]), ?_, ?_⟩⟩⟩
        · exact (raise_same (dx := d) (fs := []) na nd ne).1
        · obtain ⟨q1, q2⟩ := raise_same (dx := d) (fs := [("part", .str "legs")]) na nd ne
          exact no2 h1 h2' _ d (s12.free q1) (s12.trans q2) upd_same
    · have h1' : cornersD (ks.map (·.1)) cd = false := by simpa using h1
      rw [h1']
      refine ⟨by show 1 ≤ 1000; decide, fun a2 na => ⟨a2, _, rfl, upd_same, fun d nd ne => ⟨rfl, d, _, upd_same, (by rw [upd_ne ne, upd_same]), ?_, ?_⟩⟩⟩
      · exact (raise_same (dx := d) (fs := []) na nd ne).1
      · obtain ⟨q1, q2⟩ := raise_same (dx := d) (fs := [("part", .str "corners")]) na nd ne
        exact no1 h1' _ d (s1.free q1) (s1.trans q2) upd_same
end
end Toy
set_option Elab.async false
set_option linter.all false
set_option maxRecDepth 100000
set_option maxHeartbeats 4000000
namespace Toy
open PySem PySem.Spec PyProof.Rows L2
theorem kts_val : ∀ (kts : List (KRow × Addr)) (x : Str), x ∈ (kts.map (·.1)).map (·.1) → ∃ kt ∈ kts, kt.1.1 = x ∧ valV (kts.map kvK) (Sum.inr x) = some (.ref kt.2)
  | [], x, h => nomatch h
  | kt :: kts, x, hx => by
    by_cases h : kt.1.1 = x
    · exact ⟨kt, List.mem_cons_self, h, by rw [List.map_cons, valV_pos (p := kvK kt) (congrArg Sum.inr h)]; rfl⟩
    · have hx' : x ∈ (kts.map (·.1)).map (·.1) := by
        rcases List.mem_cons.mp hx with z | z
        · exact absurd z.symm h
        · exact z
      obtain ⟨k2, m, e1, e2⟩ := kts_val kts x hx'
      exact ⟨k2, List.mem_cons_of_mem _ m, e1, by rw [List.map_cons, valV_neg (p := kvK kt) (fun z => h (Sum.inr.inj z)), e2]⟩
theorem mul_up (a b : Nat) : ((a : Nat) : Int) * (1 + ((b : Nat) : Int)) = ((a * (1 + b) : Nat) : Int) := by
  rw [Int.natCast_mul, Int.natCast_add]
  rfl
theorem dt_tup {H : Hp} {l : Addr} {ds : List PyData} (h : Dt H (.ref l) (.tuple ds)) : ∃ xs, TupAt H l xs ∧ xs.length ≤ 1000 ∧ DtAll H xs ds := by
  cases h with
  | tup e l r => exact ⟨_, e, l, r⟩
theorem strs_back {H : Hp} : ∀ {xs : List V} {ys : List Str}, DtAll H xs (ys.map .str) → xs = ys.map V.str
  | _, [], .nil => rfl
  | _, y :: ys, .cons h t => by
    cases h
    rw [strs_back t]
    rfl
theorem take_snoc {α : Type} {xs : List α} {i : Nat} {x : α} (h : xs[i]? = some x) : xs.take (i + 1) = xs.take i ++ [x] := by
  rw [List.take_add_one, h]
  rfl
theorem map_str_at {cs : List Str} {i : Nat} {v : V} (h : (cs.map V.str)[i]? = some v) : ∃ x, cs[i]? = some x ∧ v = .str x := by
  rw [List.getElem?_map] at h
  cases e : cs[i]? with
  | none =>
    rw [e] at h
    cases h
  | some x =>
    rw [e] at h
    exact ⟨x, rfl, (Option.some.inj h).symm⟩
theorem cut_strs (cs : List Str) (k : Nat) : cutV (cs.map V.str) none (some (k : Int)) = (cs.take k).map V.str := by
  rw [cut_to, List.map_take]
theorem knds_pairs {K : PySem.W.Frag} {H : Hp} : ∀ {xs : List V} {ks : List KRow}, Paired (KndP H) xs ks → ∃ (ps : List Addr) (kts : List (KRow × Addr)), xs = ps.map V.ref ∧ kts.map (·.1) = ks ∧ Paired (fun p kv => SqT K H p [kV kv.1, kv.2]) ps (kts.map kvK) ∧ ∀ kt ∈ kts, PlT H kt.2 (kt.1.2.map V.str)
  | _, [], .nil => ⟨[], [], rfl, rfl, .nil, fun _ z => nomatch z⟩
  | _, k :: ks, .cons h t => by
    obtain ⟨ps, kts, e1, e2, pr, ok⟩ := knds_pairs (K := K) t
    obtain ⟨q, tp, rfl, ta, pl⟩ := h
    refine ⟨q :: ps, (k, tp) :: kts, by rw [e1]; rfl, by rw [List.map_cons, e2], .cons ta.sq pr, fun kt hk => ?_⟩
    rcases List.mem_cons.mp hk with z | z
    · rw [z]
      exact pl
    · exact ok kt z
theorem paired_at {α β : Type} {F : α → β → Prop} : ∀ {xs : List α} {ys : List β} {i : Nat} {x : α}, Paired F xs ys → xs[i]? = some x → ∃ y, ys[i]? = some y ∧ F x y
  | _, _, i, _, .nil, e => by simp at e
  | _, _, 0, _, .cons h _, e => by
    cases e
    exact ⟨_, rfl, h⟩
  | _, _, i + 1, _, .cons _ t, e => paired_at (i := i) t e
theorem legs_nil (keys : List Str) : legsD keys (.list []) = true := by
  have e : (PyData.list []).eqv (PyData.list (sortD [])) = true := by
    unfold sortD
    rw [List.mergeSort_nil]
    rfl
  show (decide (0 ≤ 6) && (true && ((PyData.list []).eqv (PyData.list (sortD [])) && decide ([] : List Str).Nodup))) = true
  rw [e]
  decide
theorem sf_inj {l m l' m' : Addr} (h : sf l m = sf l' m') : l = l' ∧ m = m' := by
  have h1 := congrArg (fun f : List (Str × V) => f.lookup ("sorts" : Str)) h
  have h2 := congrArg (fun f : List (Str × V) => f.lookup ("kinds" : Str)) h
  simp only [sf_sorts, sf_kinds] at h1 h2
  injection h1 with h1
  injection h1 with h1
  injection h2 with h2
  injection h2 with h2
  exact ⟨h1, h2⟩
theorem row_at {H : Hp} : ∀ {xs : List V} {rows : Rows2} {j : Nat} {x : V} {r : Str × Str}, DtAll H xs (rows.map rowT) → xs[j]? = some x → rows[j]? = some r → ∃ q, x = .ref q ∧ TupAt H q [.str r.1, .str r.2] := by
  intro xs rows j x r h hx hr
  obtain ⟨d, hd, dx⟩ := h.at_ hx
  rw [List.getElem?_map, hr] at hd
  have e : d = rowT r := (Option.some.inj hd).symm
  subst e
  generalize ek : rowT r = kd at dx
  cases dx with
  | tup e l rr =>
    rename_i a xs0 ds0
    have ed : [PyData.str r.1, .str r.2] = ds0 := by
      have q : PyData.tuple [.str r.1, .str r.2] = .tuple ds0 := ek
      injection q
    subst ed
    have es := strs_back (ys := [r.1, r.2]) rr
    subst es
    exact ⟨a, rfl, e⟩
  | _ => cases ek
/-- a stock that was made, of kinds whose ends are plain tuples -/
structure StkP (C : Addr) (H : Hp) (a : Addr) (rows : Rows2) (ks : List KRow) : Prop where
  g : StkG C H a rows ks
  pl : ∀ dx l m, H a = some (.ins C dx (sf l m)) → ∃ ws, H m = some (.lst ws) ∧ Paired (KndP H) ws ks
theorem StkP.same {C : Addr} {H H' : Hp} {a : Addr} {rows : Rows2} {ks : List KRow} (x : StkP C H a rows ks) (s : Same H H') : StkP C H' a rows ks := by
  refine ⟨x.g.same s, fun dx l m e => ?_⟩
  obtain ⟨⟨dx0, l0, m0, e0, _⟩, _⟩ := x.g.at_
  have e1 := s _ _ e0
  rw [e] at e1
  injection e1 with e1
  injection e1 with _ e2 e3
  obtain ⟨e4, e5⟩ := sf_inj e3
  subst e2 e4 e5
  obtain ⟨ws, h1, h2⟩ := x.pl _ _ _ e0
  exact ⟨ws, s _ _ h1, knds_same s h2⟩
/-! ### good data -/
theorem keys_T (rows : Rows2) : keysD (.list (rows.map rowT)) = rows.map (·.1) := by
  show ((rows.map rowT).map rowOf).map (·.1) = _
  rw [rowOf_T]
/-- what a stock is made of -/
structure GoodP (sd kd : List PyData) : Prop where
  s : sortsD (.list sd) = true
  k : kindsD (keysD (.list sd)) (.list kd) = true
theorem goodP {rows : Rows2} {ks : List KRow} (g : GoodS rows) (gk : GoodK (rows.map (·.1)) ks) (h1 : 1 ≤ ks.length) (h4 : ks.length ≤ 4) : GoodP (rows.map rowT) (ks.map kindT) := ⟨g.ok, by rw [keys_T]; exact gk.ok h1 h4⟩
/-! ### making a stock of good data -/
def noE : L2.St → XK := fun _ _ _ _ => False
theorem passN {X : Cx} (σ : L2.St) : PassesAt (L2.CX X.prog X.w) X σ (noE σ) := fun _ _ _ _ _ _ ⟨_, _, _, _, _, _, _, _, _, _, _, _, h⟩ => h.elim
theorem make_ok {C CN x dx : Addr} {H : Hp} {R : VK} {E : XK} {sv kv : V} {ss ks : List PyData} (nx : H x = none) (ndx : H dx = none) (ne : dx ≠ x) (hs : Dt H sv (.list ss)) (hk : Dt H kv (.list ks)) (g : GoodP ss ks)
    (q : ∀ H', StkAt C H' x ss ks → StkNew C H H' x sv kv → Same H H' → R .non H') :
    spInit C CN [.ref x, sv, kv] (upd (upd H dx (.own x)) x (.ins C dx [])) R E := by
  have t1 := same_new (o := .own x) ndx
  have nx2 : upd H dx (.own x) x = none := by rw [upd_ne (fun z => ne z.symm)]; exact nx
  have t2 := same_new (o := .ins C dx []) nx2
  have sH := t1.trans t2
  refine ⟨x, dx, sv, kv, _, _, rfl, upd_same, hs.same sH, hk.same sH, fun h1 => ?_, fun h1 h2 => ?_, fun h1 h2 H' st nw off => ?_⟩
  · rw [g.s] at h1
    cases h1
  · rw [g.k] at h2
    cases h2
  · refine q H' st ?_ (fun b o eb => off _ _ (sH _ _ eb) (ne_of_none eb nx))
    obtain ⟨dx', l, m, a, b, xs, ys, e1, e2, e3, n1, n2, rfl, rfl, e4, e5⟩ := nw
    refine ⟨dx', l, m, a, b, xs, ys, e1, e2, e3, sH.free n1, sH.free n2, rfl, rfl, ?_, ?_⟩
    · cases hs with
      | lst e0 _ _ =>
        have q := sH _ _ e0
        rw [e4] at q
        cases q
        exact e0
    · cases hk with
      | lst e0 _ _ =>
        have q := sH _ _ e0
        rw [e5] at q
        cases q
        exact e0

/-- the stock is made, its kinds' ends are plain -/
theorem make_stk {C CN x dx lk : Addr} {H : Hp} {R : VK} {E : XK} {sv : V} {rows : Rows2} {ks : List KRow} {ws : List V} (nx : H x = none) (ndx : H dx = none) (ne : dx ≠ x) (hs : Dt H sv (.list (rows.map rowT))) (hk : Dt H (.ref lk) (.list (ks.map kindT)))
    (hw : H lk = some (.lst ws)) (kn : Paired (KndP H) ws ks) (gd : GoodS rows) (gk : GoodK (rows.map (·.1)) ks) (h1 : 1 ≤ ks.length) (h4 : ks.length ≤ 4) (q : ∀ H', StkP C H' x rows ks → Same H H' → R .non H') :
    spInit C CN [.ref x, sv, .ref lk] (upd (upd H dx (.own x)) x (.ins C dx [])) R E := by
  refine make_ok nx ndx ne hs hk (goodP gd gk h1 h4) fun H' st nw s => q H' ⟨⟨st, gk.nd, (good_rows gd).2.2.2.1⟩, fun dx' l m e => ?_⟩ s
  obtain ⟨dx2, l2, m2, a, b, xs, ys, e1, e2, e3, n1, n2, rfl, eb, e4, e5⟩ := nw
  injection eb with eb
  subst eb
  rw [e1] at e
  injection e with e
  injection e with _ e6 e7
  obtain ⟨e8, e9⟩ := sf_inj e7
  subst e9
  rw [hw] at e5
  injection e5 with e5
  injection e5 with e5
  subst e5
  exact ⟨ws, e3, knds_same s kn⟩
/-! ### across draws: nothing of a stock stands at the source -/
mutual
def noInt : PyData → Bool
  | .int _ => false
  | .list ds => noInts ds
  | .tuple ds => noInts ds
  | _ => true
def noInts : List PyData → Bool
  | [] => true
  | d :: ds => noInt d && noInts ds
end
theorem noInts_all {ds : List PyData} (h : ∀ d ∈ ds, noInt d = true) : noInts ds = true := by
  induction ds with
  | nil => rfl
  | cons d ds ih =>
    show (noInt d && noInts ds) = true
    rw [h d List.mem_cons_self, ih fun x hx => h x (List.mem_cons_of_mem _ hx)]
    rfl
theorem noInts_strs (xs : List Str) : noInts (xs.map .str) = true := noInts_all fun d hd => by
  obtain ⟨x, _, rfl⟩ := List.mem_map.mp hd
  rfl
theorem noInt_rows (rows : Rows2) : noInt (.list (rows.map rowT)) = true := noInts_all fun d hd => by
  obtain ⟨r, _, rfl⟩ := List.mem_map.mp hd
  rfl
theorem noInt_kinds (ks : List KRow) : noInt (.list (ks.map kindT)) = true := noInts_all fun d hd => by
  obtain ⟨k, _, rfl⟩ := List.mem_map.mp hd
  show (true && (noInts (k.2.map .str) && true)) = true
  rw [noInts_strs]
  rfl
theorem TupAt.src {H : Hp} {p a : Addr} {n : Nat} {xs : List V} (hp : SrcAt H p n) (h : TupAt H a xs) : a ≠ p := by
  obtain ⟨x, y, z, e, _⟩ := hp
  exact h.rd.elim (fun e2 => ne_of e2 e (by intro z; cases z)) fun ⟨_, e2⟩ => ne_of e2 e (by intro z; cases z)
theorem TupAt.del {H : Hp} {p a : Addr} {n : Nat} {xs : List V} (hp : SrcAt H p n) (h : TupAt H a xs) : TupAt (L2.del H p) a xs := by
  have ne := TupAt.src hp h
  refine ⟨?_⟩
  unfold Rd
  rw [del_ne ne]
  exact h.rd
theorem Dt.del {H : Hp} {p : Addr} {n : Nat} (hp : SrcAt H p n) {v : V} {d : PyData} (h : Dt H v d) : noInt d = true → Dt (L2.del H p) v d := by
  refine Dt.rec (motive_1 := fun v d _ => noInt d = true → Dt (L2.del H p) v d) (motive_2 := fun vs ds _ => noInts ds = true → DtAll (L2.del H p) vs ds) ?_ ?_ ?_ ?_ ?_ ?_ ?_ ?_ ?_ h
  · exact fun _ => .non
  · exact fun b _ => .bl b
  · exact fun i q => nomatch q
  · exact fun x hx _ => .str x hx
  · intro a xs ds e l r ih q
    refine .lst ?_ l (ih q)
    have ne : a ≠ p := fun z => by
      obtain ⟨x1, x2, x3, e2, _⟩ := hp
      rw [← z, e] at e2
      injection e2 with e2
      injection e2 with e2
      subst e2
      cases r with
      | cons h1 _ =>
        cases h1
        have q2 := q
        simp [noInt, noInts] at q2
    rw [del_ne ne]
    exact e
  · intro a xs ds e l r ih q
    exact .tup (TupAt.del hp e) l (ih q)
  · intro a e q
    refine .dct ?_
    have ne : a ≠ p := by
      obtain ⟨x1, x2, x3, e2, _⟩ := hp
      exact ne_of e e2 (by intro z; cases z)
    rw [del_ne ne]
    exact e
  · exact fun _ => .nil
  · intro v vs d ds _ _ ih1 ih2 q
    have q2 : (noInt d && noInts ds) = true := q
    rw [Bool.and_eq_true] at q2
    exact .cons (ih1 q2.1) (ih2 q2.2)
theorem Dt.off {H H' : Hp} {p : Addr} {n : Nat} (hp : SrcAt H p n) {v : V} {d : PyData} (h : Dt H v d) (q : noInt d = true) (o : Off p H H') : Dt H' v d := ((h.del hp q).same (off_same o)).same del_sub
theorem PlT.del {H : Hp} {p a : Addr} {n : Nat} {xs : List V} (hp : SrcAt H p n) (h : PlT H a xs) : PlT (L2.del H p) a xs := by
  obtain ⟨o, e, d, c⟩ := h
  have ne : a ≠ p := by
    obtain ⟨x1, x2, x3, e2, _⟩ := hp
    exact ne_of e e2 (by intro z; cases z)
  exact ⟨o, by rw [del_ne ne]; exact e, d, c⟩
theorem knds_del {H : Hp} {p : Addr} {n : Nat} (hp : SrcAt H p n) {ws : List V} {ks : List KRow} (h : Paired (KndP H) ws ks) : Paired (KndP (L2.del H p)) ws ks := L2.Paired.mapP h fun _ _ ⟨q, t, e, a, b⟩ => ⟨q, t, e, TupAt.del hp a, PlT.del hp b⟩
theorem knds_off {H H' : Hp} {p : Addr} {n : Nat} (hp : SrcAt H p n) {ws : List V} {ks : List KRow} (h : Paired (KndP H) ws ks) (o : Off p H H') : Paired (KndP H') ws ks := knds_same del_sub (knds_same (off_same o) (knds_del hp h))
/-- a list of other things than the source's numbers is not the source -/
theorem lst_src {H : Hp} {p a : Addr} {n : Nat} {xs : List V} (hp : SrcAt H p n) (h : H a = some (.lst xs)) (q : ∀ x, xs[0]? ≠ some (.int x)) : a ≠ p := fun z => by
  obtain ⟨x1, x2, x3, e2, _⟩ := hp
  rw [← z, h] at e2
  injection e2 with e2
  injection e2 with e2
  subst e2
  exact q x1 rfl
theorem knds_src {H : Hp} {p a : Addr} {n : Nat} {ws : List V} {ks : List KRow} (hp : SrcAt H p n) (h : H a = some (.lst ws)) (kn : Paired (KndP H) ws ks) : a ≠ p := lst_src hp h fun x e => by
  obtain ⟨k, _, q, t, e2, _⟩ := paired_at kn e
  cases e2
theorem StkP.del {C : Addr} {H : Hp} {p a : Addr} {n : Nat} {rows : Rows2} {ks : List KRow} (hp : SrcAt H p n) (x : StkP C H a rows ks) : StkP C (L2.del H p) a rows ks := by
  obtain ⟨⟨dx, l, m, e, dl, dm⟩, f1, f2⟩ := x.g.at_
  have ne : a ≠ p := by
    obtain ⟨x1, x2, x3, e2, _⟩ := hp
    exact ne_of e e2 (by intro z; cases z)
  refine ⟨⟨⟨⟨dx, l, m, by rw [del_ne ne]; exact e, dl.del hp (noInt_rows rows), dm.del hp (noInt_kinds ks)⟩, f1, f2⟩, x.g.nd, x.g.nr⟩, fun dx' l' m' e' => ?_⟩
  rw [del_ne ne] at e'
  obtain ⟨ws, h1, h2⟩ := x.pl _ _ _ e'
  exact ⟨ws, by rw [del_ne (knds_src hp h1 h2)]; exact h1, knds_del hp h2⟩
theorem StkP.off {C : Addr} {H H' : Hp} {p a : Addr} {n : Nat} {rows : Rows2} {ks : List KRow} (hp : SrcAt H p n) (x : StkP C H a rows ks) (o : Off p H H') : StkP C H' a rows ks := ((x.del hp).same (off_same o)).same del_sub
theorem cut_ints (ns : List Int) (k : Nat) (z : V) (h : z ∈ cutV (ns.map V.int) none (some (k : Int))) : ∃ n : Int, z = .int n := by
  unfold cutV at h
  have h2 := List.mem_of_mem_drop (List.mem_of_mem_take h)
  rw [List.mem_map] at h2
  obtain ⟨n, _, e⟩ := h2
  exact ⟨n, e.symm⟩
/-- how deep, and without dicts -/
structure Low (n : Nat) (d : PyData) : Prop where
  nd : noDict d = true
  dep : PyData.depth d ≤ n
theorem low_list {ds : List PyData} (f : Flat ds) : Low 9 (.list ds) := ⟨f.nd, by have := f.dep; show PyData.depthAll ds + 1 ≤ 9; omega⟩
theorem neD_same {K : PySem.W.Frag} {H : Hp} {Q : VK} {x y : V} {d : PyData} (h1 : Dt H x d) (h2 : Dt H y d) (l : Low 20 d) (q : Q (.bl false) H) : rNeD K x y H Q := by
  have c := h1.can l.nd
  have sh : SeqAt.shaped d = true := by
    unfold SeqAt.shaped
    rw [c, decide_eq_true (by have := l.dep; omega)]
    rfl
  exact ⟨d, d, h1.dp l.nd, h2.dp l.nd, sh, sh, by rw [PySem.SeqAt.eqv_refl d c]; exact q⟩
theorem low_strs (xs : List Str) : Low 20 (.list (xs.map .str)) := by
  refine ⟨noDicts_all fun d hd => ?_, ?_⟩
  · obtain ⟨x, _, rfl⟩ := List.mem_map.mp hd
    rfl
  · have q := depth_all (n := 0) (ds := xs.map PyData.str) fun d hd => by
      obtain ⟨x, _, rfl⟩ := List.mem_map.mp hd
      exact Nat.le_refl _
    show PyData.depthAll (xs.map .str) + 1 ≤ 20
    omega
theorem dt_lstrs {H : Hp} {t : Addr} {ys : List Str} (e : H t = some (.lst (ys.map V.str))) (hl : ys.length ≤ 1000) (h : ∀ x ∈ ys, nameS x = true) : Dt H (.ref t) (.list (ys.map .str)) := .lst e (by rw [List.length_map]; exact hl) (DtAll.strs ys fun x hx => okS_name (h x hx))
theorem corners_ok {keys cs : List Str} (l : cs.length ≤ 6) (h : ∀ x ∈ cs, x ∈ keys) (n : ∀ x ∈ cs, nameS x = true) : cornersD keys (.list (cs.map .str)) = true := by
  show (decide ((cs.map PyData.str).length ≤ 6) && (cs.map PyData.str).all fun d => nameD d && decide (strO d ∈ keys)) = true
  rw [List.length_map, decide_eq_true l, Bool.true_and, List.all_eq_true]
  intro d hd
  obtain ⟨x, hx, rfl⟩ := List.mem_map.mp hd
  show (nameS x && decide (x ∈ keys)) = true
  rw [n x hx, decide_eq_true (h x hx)]
  rfl
end Toy
set_option Elab.async false
set_option linter.all false
set_option maxRecDepth 100000
set_option maxHeartbeats 4000000
namespace Toy
open PySem PySem.Spec PyProof.Rows L2
/-! ### a comprehension of two fors, for by for -/
theorem it_by {J : It} {n : Nat} {G : Hp → Prop} {Y : Nat → Hp → V → Hp → Prop} (w : Walk J n G Y) {R : Hp → Prop} {H0 : Hp} {step : V → Hp → (Hp → Prop) → Prop} (Pv : Nat → Hp → Prop) (h0 : Pv 0 H0) (hG : ∀ i H, i ≤ n → Pv i H → G H)
    (hs : ∀ i x H H', i < n → Pv i H → Y i H x H' → step x H' (Pv (i + 1))) (hd : ∀ H, Pv n H → R H) :
    ∃ W : Nat → Nat → Hp → Prop, (∃ m, W 0 m H0) ∧ ∀ i m H, W i m H →
      (J.stop i H ∧ R H) ∨ (J.go i H ∧ ∃ Nx : Hp → Prop, (∀ H', Nx H' → ∃ m', m' < m ∧ W (i + 1) m' H') ∧ ∀ x H', J.yld i H x H' → step x H' Nx) := by
  refine ⟨fun i m H => m = n - i ∧ i ≤ n ∧ Pv i H, ⟨n, by simp, Nat.zero_le _, h0⟩, ?_⟩
  rintro i m H ⟨rfl, hi, p⟩
  have q := hG i H hi p
  by_cases hlt : i < n
  · exact .inr ⟨w.goes i H hlt q, Pv (i + 1), fun H' p' => ⟨n - (i + 1), by omega, rfl, hlt, p'⟩, fun x H' y => hs i x H H' hlt p (w.yields i H x H' hlt q y)⟩
  · have e : i = n := by omega
    subst e
    exact .inl ⟨w.stops H q, hd H p⟩
/-! ### all ends -/
/-- the ends of a kind -/
def kEnds (ks : List KRow) (c : Str) : List Str := match ks.find? fun k => decide (k.1 = c) with
  | some k => k.2
  | none => []
theorem kEnds_of {ks : List KRow} {k : KRow} (nd : (ks.map (·.1)).Nodup) (hk : k ∈ ks) : kEnds ks k.1 = k.2 := by
  unfold kEnds
  have e : ks.find? (fun r => decide (r.1 = k.1)) = some k := by
    induction ks with
    | nil => exact nomatch hk
    | cons a ks ih =>
      rw [List.map_cons, List.nodup_cons] at nd
      by_cases h : a.1 = k.1
      · rcases List.mem_cons.mp hk with z | z
        · rw [List.find?_cons_of_pos (by rw [h]; exact decide_eq_true rfl), z]
        · exact absurd (by rw [h]; exact List.mem_map_of_mem (f := fun k : KRow => k.1) z) nd.1
      · rcases List.mem_cons.mp hk with z | z
        · exact absurd (by rw [z]) h
        · rw [List.find?_cons_of_neg (by simpa using h)]
          exact ih nd.2 z
  rw [e]
/-- corner by corner -/
def cornE (ks : List KRow) : Nat → List Str → List (Nat × Str)
  | _, [] => []
  | i, c :: cs => (kEnds ks c).map (fun s => (i, s)) ++ cornE ks (i + 1) cs
def legE : Nat → Rows2 → List (Nat × Str)
  | _, [] => []
  | i, g :: lg => (i, g.2) :: legE (i + 1) lg
theorem cornE_snoc (ks : List KRow) (c : Str) : ∀ (cs : List Str) (i : Nat), cornE ks i (cs ++ [c]) = cornE ks i cs ++ (kEnds ks c).map fun s => (i + cs.length, s)
  | [], i => by
    show (kEnds ks c).map _ ++ [] = [] ++ _
    rw [List.append_nil, List.nil_append]
    rfl
  | a :: cs, i => by
    show _ ++ cornE ks (i + 1) (cs ++ [c]) = (_ ++ cornE ks (i + 1) cs) ++ _
    rw [cornE_snoc ks c cs (i + 1), List.append_assoc, List.length_cons]
    have e : i + 1 + cs.length = i + (cs.length + 1) := by omega
    rw [e]
theorem legE_snoc (g : Str × Str) : ∀ (lg : Rows2) (i : Nat), legE i (lg ++ [g]) = legE i lg ++ [(i + lg.length, g.2)]
  | [], i => rfl
  | a :: lg, i => by
    show (i, a.2) :: legE (i + 1) (lg ++ [g]) = ((i, a.2) :: legE (i + 1) lg) ++ _
    rw [legE_snoc g lg (i + 1), List.length_cons]
    have e : i + 1 + lg.length = i + (lg.length + 1) := by omega
    rw [e]
    rfl
def allE (ks : List KRow) (cs : List Str) (lg : Rows2) : List (Nat × Str) := cornE ks 0 cs ++ legE cs.length lg
theorem legE_sorts : ∀ (lg : Rows2) (i : Nat), (legE i lg).map (·.2) = lg.map (·.2)
  | [], _ => rfl
  | g :: lg, i => by
    show g.2 :: (legE (i + 1) lg).map (·.2) = _
    rw [legE_sorts lg (i + 1)]
    rfl
theorem cornE_sorts (ks : List KRow) : ∀ (cs : List Str) (i : Nat), (cornE ks i cs).map (·.2) = cs.flatMap (kEnds ks)
  | [], _ => rfl
  | c :: cs, i => by
    show ((kEnds ks c).map (fun s => (i, s)) ++ cornE ks (i + 1) cs).map (·.2) = _
    rw [List.map_append, cornE_sorts ks cs (i + 1), List.flatMap_cons, List.map_map]
    congr 1
    exact List.map_id'' (fun _ => rfl) _
theorem cornE_len {ks : List KRow} (h5 : ∀ k ∈ ks, k.2.length ≤ 5) : ∀ (cs : List Str) (i : Nat), (cornE ks i cs).length ≤ 5 * cs.length
  | [], _ => Nat.zero_le _
  | c :: cs, i => by
    show ((kEnds ks c).map (fun s => (i, s)) ++ cornE ks (i + 1) cs).length ≤ 5 * (cs.length + 1)
    have ih := cornE_len h5 cs (i + 1)
    have e : (kEnds ks c).length ≤ 5 := by
      unfold kEnds
      cases q : ks.find? fun k => decide (k.1 = c) with
      | none => exact Nat.zero_le _
      | some k => exact h5 k (List.mem_of_find?_eq_some q)
    rw [List.length_append, List.length_map]
    omega
/-- an end, as a tuple -/
def EndP (H : Hp) (v : V) (e : Nat × Str) : Prop := ∃ q, v = .ref q ∧ TupAt H q [.int (e.1 : Nat), .str e.2]
def EndsAt (H : Hp) (vs : List V) (es : List (Nat × Str)) : Prop := Paired (EndP H) vs es
theorem EndsAt.same {H H' : Hp} (s : Same H H') {vs : List V} {es : List (Nat × Str)} (h : EndsAt H vs es) : EndsAt H' vs es := L2.Paired.mapP h fun _ _ ⟨q, e, t⟩ => ⟨q, e, t.same s⟩
theorem EndsAt.len {H : Hp} {vs : List V} {es : List (Nat × Str)} (h : EndsAt H vs es) : vs.length = es.length := (show Paired (EndP H) vs es from h).length
theorem EndsAt.app {H : Hp} : ∀ {vs ws : List V} {es fs : List (Nat × Str)}, EndsAt H vs es → EndsAt H ws fs → EndsAt H (vs ++ ws) (es ++ fs)
  | _, _, _, _, .nil, h => h
  | _, _, _, _, .cons a t, h => .cons a (EndsAt.app t h)
theorem same_del' {H : Hp} {D : Addr} {o : HO} (n : H D = none) : Same H (del (upd H D o) D) := fun b x e => by
  have nb := ne_of_none e n
  rw [del_ne nb, upd_ne nb]
  exact e
theorem del_upd_same {H : Hp} {D : Addr} {o : HO} : Same (del H D) (del (upd H D o) D) := fun b x e => by
  by_cases q : b = D
  · rw [q, del_same] at e
    cases e
  · rw [del_ne q] at e ⊢
    rw [upd_ne q]
    exact e
def spAllEnds (C : Addr) : Sp := fun vs H Q _ => ∃ (a c g : Addr) (rows : Rows2) (ks : List KRow) (cs : List Str) (lg : Rows2), vs = [.ref a, .ref c, .ref g] ∧ StkP C H a rows ks ∧ (∀ k ∈ ks, k.2.length ≤ 5) ∧ H c = some (.lst (cs.map V.str)) ∧ cs.length ≤ 6 ∧
  (∀ x ∈ cs, x ∈ ks.map (·.1)) ∧ Dt H (.ref g) (.list (lg.map rowT)) ∧ lg.length ≤ 6 ∧ ∀ p H' vs, H p = none → Same H H' → H' p = some (.lst vs) → EndsAt H' vs (allE ks cs lg) → Q (.ref p) H'
section
variable {P : Program} {w : World} {K : PySem.W.Frag} {mg : Str → Option Value} {base : Heap}
abbrev aeN : List Str := ["stock", "corners", "legs", "kinds", "ends", "place", "kind", "sort", "at", "leg"]
theorem scAllEnds : FnScope aeN ["stock", "corners", "legs"] (defScope sAllEnds) := ⟨rfl, rfl, rfl, by decide +kernel, rfl, by decide +kernel, by decide +kernel⟩
theorem ok_allEnds {f fX C CS : Addr} {fd : FuncData} (F : Fun K "all_ends" "all_ends" sAllEnds f fd) (M : Mods mg) (T : StkC K mg C CS fX) (mEn : mg "enumerate" = none) :
    FnOk P w K mg base CX0 1 f fd ["stock", "corners", "legs"] (spAllEnds C) := by
  refine F.ok scAllEnds (fun vs H Q E h => ?_) (fun cdv A outer s H vs Q E hr h => ?_)
  · obtain ⟨a, c, g, rows, ks, cs, lg, rfl, _⟩ := h
    rfl
  · obtain ⟨a, c, g, rows, ks, cs, lg, rfl, sg, k5, hc, l6, hcs, dg, lg6, k⟩ := h
    refine ⟨_, pss_cons (ps_set (i := 3) scAllEnds.nd rfl (Or.inr rfl) (pe_callTy (call_dictP rfl) (by rfl) M.dict_ (by decide +kernel) (pa_cons (pe_fld (pv 0) rfl) pa_nil)))
      (pss_cons (ps_setLc2 (i := 4) (own := [("place", 5), ("kind", 6), ("sort", 7)]) (vs1 := [7]) (g := gTup K 2 (gCons (gName 5) (gCons (gName 6) gNil))) (tt := tYes) (wi1 := iTup K (tDGet (tVar 3) (tVar 6))) (g1 := gName 7) (tt1 := tYes) (te := tTup (tCons (tVar 5) (tCons (tVar 7) tNil))) rfl scAllEnds.nd rfl rfl (sw_true rfl rfl rfl (by decide +kernel)) (pi_enum (by rfl) mEn (pa_cons (pv 1) pa_nil)) (blkOk_by (N := aeN) (sc := defScope sAllEnds) (by decide +kernel)) (by decide)
        (fun _ _ _ _ _ => pg_tup rfl (pgs_cons (pg_name (i := 5) scAllEnds.nd rfl (Or.inl rfl)) (pgs_cons (pg_name (i := 6) scAllEnds.nd rfl (Or.inl rfl)) pgs_nil))) (fun _ _ _ _ _ => pts_nil)
        (fun _ _ _ _ _ => (by exact pi_tup (pe_dget (hu_of hr) (pv 3) (pv 6) (fun _ _ => rfl)))) (fun _ _ _ _ _ => pg_name (i := 7) scAllEnds.nd rfl (Or.inl rfl)) (fun _ _ _ _ _ => pts_nil)
        (fun _ _ _ _ _ => (by exact pe_tup (pa_cons (pv 5) (pa_cons (pv 7) pa_nil)))))
      (pss_one (ps_ret (pe_op op_cat (pv 4) (pe_lc (own := [("at", 8), ("leg", 9)]) (g := gTup K 2 (gCons (gName 8) (gCons (gName 9) gNil))) (tt := tYes) (te := tTup (tCons (tOp (rI0 fun i j => .int (i + j)) (tCB (rLen K) (tCons (tVar 1) tNil)) (tVar 8)) (tCons (tOp (rIxT K) (tVar 9) (tC (.int 1))) tNil))) rfl scAllEnds.nd (pi_enum (by rfl) mEn (pa_cons (pv 2) pa_nil)) (blkOk_by (N := aeN) (sc := defScope sAllEnds) (by decide +kernel))
        (fun _ _ _ _ _ => pg_tup rfl (pgs_cons (pg_name (i := 8) scAllEnds.nd rfl (Or.inl rfl)) (pgs_cons (pg_name (i := 9) scAllEnds.nd rfl (Or.inl rfl)) pgs_nil))) (fun _ _ _ _ _ => pts_nil)
        (fun _ _ _ _ _ => (by exact pe_tup (pa_cons (pe_op op_add (pe_callB call_len_seq (by rfl) M.len PySem.boot_len (pa_cons (pv 1) pa_nil)) (pv 8)) (pa_cons (pe_ix ix_tup (pv 9) pe_int (fun _ _ => rfl)) pa_nil))))))))), ?_⟩
    obtain ⟨⟨dx, l, m, ea, _, _⟩, _⟩ := sg.g.at_
    obtain ⟨ws, em, kn⟩ := sg.pl _ _ _ ea
    obtain ⟨ps, kts, exs, ekt, pr, okt⟩ := knds_pairs (K := K) kn
    subst exs
    refine ⟨_, rfl, a, C, dx, _, _, rfl, ea, T.cl, T.nK, sf_kinds _ _, m, ps, _, rfl, SqL.of em, pr, fun dp hdp => ?_⟩
    rw [dict_kts (by rw [ekt]; exact sg.g.nd)]
    have t1 := same_new (o := .dK (kts.map kvK)) hdp
    have hd1 : upd H dp (.dK (kts.map kvK)) dp = some (.dK (kts.map kvK)) := upd_same
    generalize upd H dp (.dK (kts.map kvK)) = H1 at t1 hd1 ⊢
    refine ⟨_, rfl, c, _, rfl, SqL.of (t1 _ _ hc), fun D nD => ?_⟩
    have nDc : ∀ {G : Hp}, Same H1 G → c ≠ D := fun _ => ne_of_none (t1 _ _ hc) nD
    refine it_by walk_enum (fun i H' => Same H1 (del H' D) ∧ ∃ vs, H' D = some (.lst vs) ∧ EndsAt (del H' D) vs (cornE ks 0 (cs.take i))) ⟨?_, [], upd_same, .nil⟩ (fun i H' _ h => SqL.of (del_sub _ _ (h.1 _ _ (t1 _ _ hc)))) ?_ ?_
    · exact same_del' nD
    · rintro i x H2 H3 hi ⟨s2, vs, hD2, ev⟩ ⟨Tq, u, v, rfl, nT, rfl, hu, hv⟩
      cases hu
      obtain ⟨z, hz, rfl⟩ := map_str_at hv
      have nTD : Tq ≠ D := (ne_of_none hD2 nT).symm
      have t3 := same_new (o := .tup [.int (i : Nat), .str z]) nT
      have hD3 := t3 _ _ hD2
      refine ⟨Tq, _, rfl, SqT.of upd_same, rfl, _, _, rfl, _, _, rfl, rfl, ?_⟩
      have s3 : Same H1 (del (upd H2 Tq (.tup [.int (i : Nat), .str z])) D) := s2.trans (same_del t3)
      have ev3 := ev.same (same_del (l := D) t3)
      generalize upd H2 Tq (.tup [.int (i : Nat), .str z]) = H3 at t3 hD3 s3 ev3 ⊢
      refine ⟨rfl, ?_⟩
      delta tYes
      dsimp only
      rw [if_pos rfl]
      have hzc : z ∈ cs := List.mem_of_getElem? hz
      obtain ⟨kt, hkt, ez, ekv⟩ := kts_val kts z (by rw [ekt]; exact hcs z hzc)
      have hkm : kt.1 ∈ ks := by rw [← ekt]; exact List.mem_map_of_mem (f := (·.1)) hkt
      have eks : kEnds ks z = kt.1.2 := by rw [← ez]; exact kEnds_of sg.g.nd hkm
      have pt := (okt kt hkt).same t1
      have e5 := k5 _ hkm
      have li : i < cs.length := by rw [List.length_map] at hi; exact hi
      have cl := cornE_len k5 (cs.take i) 0
      rw [List.length_take] at cl
      refine ⟨_, rfl, _, rfl, dp, .ref kt.2, rfl, ?_, kt.2, rfl, ⟨_, ((pt.same s3).same del_sub).sq⟩, ?_⟩
      · rw [← ekv]
        exact DGet.k (k := Sum.inr z) (del_sub _ _ (s3 _ _ hd1))
      refine it_by (walk_tup (K := K) (a := kt.2) (xs := kt.1.2.map V.str)) (fun j H' => Same H1 (del H' D) ∧ ∃ vs, H' D = some (.lst vs) ∧ EndsAt (del H' D) vs (cornE ks 0 (cs.take i) ++ (kt.1.2.take j).map fun s => (i, s))) ⟨s3, vs, hD3, ?_⟩ (fun j H' _ h => ((pt.same h.1).same del_sub).sq) ?_ ?_
      · rw [List.take_zero, List.map_nil, List.append_nil]
        exact ev3
      · rintro j x H4 H5 hj ⟨s4, vs4, hD4, ev4⟩ hy
        obtain ⟨rfl, hy⟩ := hy
        obtain ⟨y, hy2, rfl⟩ := map_str_at hy
        rw [List.length_map] at hj
        refine ⟨rfl, ?_⟩
        rw [if_pos rfl]
        refine ⟨_, rfl, _, rfl, by show 2 ≤ sizeLine; decide, fun tq ntq => ?_⟩
        have ntD : tq ≠ D := (ne_of_none hD4 ntq).symm
        have t6 := same_new (o := .tup [.int (i : Nat), .str y]) ntq
        have htq : upd H5 tq (.tup [.int (i : Nat), .str y]) tq = some (.tup [.int (i : Nat), .str y]) := upd_same
        have hD6 := t6 _ _ hD4
        have s6 := s4.trans (same_del (l := D) t6)
        have ev6 := ev4.same (same_del (l := D) t6)
        generalize upd H5 tq (.tup [.int (i : Nat), .str y]) = H6 at t6 htq hD6 s6 ev6 ⊢
        have lvs : vs4.length ≤ 40 := by
          have q := ev4.len
          rw [List.length_append, List.length_map, List.length_take] at q
          omega
        have sd : Same (del H6 D) (del (upd H6 D (.lst (vs4 ++ [.ref tq]))) D) := del_upd_same
        refine ⟨vs4, hD6, small1000 (by omega), s6.trans sd, vs4 ++ [.ref tq], upd_same, ?_⟩
        rw [take_snoc hy2, List.map_append, ← List.append_assoc]
        refine (ev6.same sd).app (.cons ⟨tq, rfl, .of ?_⟩ .nil)
        rw [del_ne ntD, upd_ne ntD]
        exact htq
      · rintro H4 ⟨s4, vs4, hD4, ev4⟩
        rw [List.length_map, List.take_of_length_le (Nat.le_refl _)] at ev4
        refine ⟨s4, vs4, hD4, ?_⟩
        rw [take_snoc hz, cornE_snoc, eks, List.length_take, Nat.zero_add, Nat.min_eq_left (Nat.le_of_lt li)]
        exact ev4
    · rintro H2 ⟨s2, vs, hD2, ev⟩
      rw [List.length_map, List.take_of_length_le (Nat.le_refl _)] at ev
      -- behind the corners the legs
      obtain ⟨gs, hg, lgs, rg⟩ := dt_list dg
      have s12 := s2.trans del_sub
      have nD0 : H D = none := t1.free nD
      refine ⟨_, rfl, _, rfl, g, gs, rfl, SqL.of (s12 _ _ (t1 _ _ hg)), fun D2 nD2 => ?_⟩
      have nDD : D ≠ D2 := ne_of_none hD2 nD2
      have ngs : gs.length = lg.length := by rw [rg.len, List.length_map]
      have n2 : H D2 = none := (t1.trans s12).free nD2
      refine lc_it walk_enum (fun j H' => Same H2 (del H' D2) ∧ ∃ vs2, H' D2 = some (.lst vs2) ∧ EndsAt (del H' D2) vs2 (legE cs.length (lg.take j))) ⟨same_del' nD2, [], upd_same, .nil⟩ (fun j H' _ h => SqL.of (del_sub _ _ (h.1 _ _ (s12 _ _ (t1 _ _ hg))))) ?_ ?_
      · rintro j x H3 H4 hj ⟨s3, vs3, hD3, ev3⟩ ⟨Tq, u, v, rfl, nT, rfl, hu, hv⟩
        cases hu
        obtain ⟨gr, hgr⟩ : ∃ gr, lg[j]? = some gr := ⟨lg[j], List.getElem?_eq_getElem (by omega)⟩
        obtain ⟨q, rfl, tq⟩ := row_at rg hv hgr
        have nTD : Tq ≠ D2 := (ne_of_none hD3 nT).symm
        have t4 := same_new (o := .tup [.int (j : Nat), .ref q]) nT
        have hD4 := t4 _ _ hD3
        have s4 := s3.trans (same_del (l := D2) t4)
        have ev4 := ev3.same (same_del (l := D2) t4)
        refine ⟨Tq, _, rfl, SqT.of upd_same, rfl, _, _, rfl, _, _, rfl, rfl, ?_⟩
        generalize upd H3 Tq (.tup [.int (j : Nat), .ref q]) = H4 at t4 hD4 s4 ev4 ⊢
        refine ⟨rfl, ?_⟩
        delta tYes
        dsimp only
        rw [if_pos rfl]
        have tq4 := ((tq.same (t1.trans s12)).same s4).same del_sub
        have hc4 := del_sub _ _ (s4 _ _ (s12 _ _ (t1 _ _ hc)))
        refine ⟨_, rfl, c, _, rfl, .inl (SqL.of hc4), _, rfl, _, _, rfl, rfl, _, rfl, q, _, 1, _, rfl, rfl, tq4.sq, ix1, by show 2 ≤ sizeLine; decide, fun te nte => ?_⟩
        rw [List.length_map]
        have ntD : te ≠ D2 := (ne_of_none hD4 nte).symm
        have t6 := same_new (o := .tup [.int ((cs.length : Nat) + (j : Nat)), .str gr.2]) nte
        have htq : upd H4 te (.tup [.int ((cs.length : Nat) + (j : Nat)), .str gr.2]) te = some (.tup [.int ((cs.length : Nat) + (j : Nat)), .str gr.2]) := upd_same
        have hD6 := t6 _ _ hD4
        have s6 := s4.trans (same_del (l := D2) t6)
        have ev6 := ev4.same (same_del (l := D2) t6)
        generalize upd H4 te (.tup [.int ((cs.length : Nat) + (j : Nat)), .str gr.2]) = H6 at t6 htq hD6 s6 ev6 ⊢
        have lvs : vs3.length ≤ 40 := by
          have q := ev3.len
          have q2 : (legE cs.length (lg.take j)).length = (lg.take j).length := by
            have q3 := congrArg List.length (legE_sorts (lg.take j) cs.length)
            rw [List.length_map, List.length_map] at q3
            exact q3
          rw [q2, List.length_take] at q
          omega
        have sd : Same (del H6 D2) (del (upd H6 D2 (.lst (vs3 ++ [.ref te]))) D2) := del_upd_same
        refine ⟨vs3, hD6, small1000 (by omega), s6.trans sd, vs3 ++ [.ref te], upd_same, ?_⟩
        rw [take_snoc hgr, legE_snoc, List.length_take, Nat.min_eq_left (by omega)]
        refine (ev6.same sd).app (.cons ⟨te, rfl, .of ?_⟩ .nil)
        rw [del_ne ntD, upd_ne ntD]
        exact htq
      · rintro H3 ⟨s3, vs3, hD3, ev3⟩
        rw [ngs, List.take_of_length_le (Nat.le_refl _)] at ev3
        have sAll := s3.trans del_sub
        have hD3' := sAll _ _ hD2
        have evA := ((ev.same del_sub).same sAll).app (ev3.same del_sub)
        have lA := evA.len
        have l1 := cornE_len k5 cs 0
        have q3 := congrArg List.length (legE_sorts lg cs.length)
        rw [List.length_map, List.length_map] at q3
        refine ⟨D, D2, vs, vs3, rfl, rfl, hD3', hD3, ?_, fun R nR => ?_⟩
        · rw [← List.length_append, lA, List.length_append, q3]
          exact Nat.le_trans (Nat.add_le_add l1 lg6) (Nat.le_trans (Nat.add_le_add (Nat.mul_le_mul (Nat.le_refl 5) l6) (Nat.le_refl 6)) (by decide))
        · have t9 := same_new (o := .lst (vs ++ vs3)) nR
          have sT := ((t1.trans s12).trans sAll).trans t9
          exact k R _ _ (((t1.trans s12).trans sAll).free nR) sT upd_same (evA.same t9)
end
end Toy
set_option Elab.async false
set_option linter.all false
set_option maxRecDepth 100000
set_option maxHeartbeats 2000000
namespace Toy
open PySem PySem.Spec PyProof.Rows L2
/-! ### products -/
abbrev facN : Nat → Nat := Builtin.Math.factorialNat
theorem fac_succ (n : Nat) : facN (n + 1) = facN n * (n + 1) := PySem.W.mc_fac_succ n
def prodN : List Nat → Nat
  | [] => 1
  | x :: xs => x * prodN xs
theorem prodN_app : ∀ xs ys : List Nat, prodN (xs ++ ys) = prodN xs * prodN ys
  | [], ys => (Nat.one_mul _).symm
  | x :: xs, ys => by
    show x * prodN (xs ++ ys) = x * prodN xs * prodN ys
    rw [prodN_app xs ys, Nat.mul_assoc]
theorem prod_same {α : Type} (f g : α → Nat) : ∀ l : List α, (∀ a ∈ l, f a = g a) → prodN (l.map f) = prodN (l.map g)
  | [], _ => rfl
  | a :: l, h => by
    show f a * prodN (l.map f) = g a * prodN (l.map g)
    rw [h a List.mem_cons_self, prod_same f g l fun b hb => h b (List.mem_cons_of_mem _ hb)]
theorem prod_bump {α : Type} (f g : α → Nat) (key : α → Str) (s : Str) (m : Nat) : ∀ l : List α, (l.map key).Nodup → s ∈ l.map key → (∀ a ∈ l, key a ≠ s → f a = g a) → (∀ a ∈ l, key a = s → f a = g a * m) → prodN (l.map f) = prodN (l.map g) * m
  | [], _, hs, _, _ => nomatch hs
  | a :: l, nd, hs, h1, h2 => by
    show f a * prodN (l.map f) = g a * prodN (l.map g) * m
    rw [List.map_cons, List.nodup_cons] at nd
    by_cases e : key a = s
    · have q : prodN (l.map f) = prodN (l.map g) := prod_same f g l fun b hb => h1 b (List.mem_cons_of_mem _ hb) fun z => nd.1 (by rw [e, ← z]; exact List.mem_map_of_mem (f := key) hb)
      rw [h2 a List.mem_cons_self e, q]
      rw [Nat.mul_assoc, Nat.mul_comm m, ← Nat.mul_assoc]
    · have hs' : s ∈ l.map key := by
        rcases List.mem_cons.mp hs with z | z
        · exact absurd z.symm e
        · exact z
      rw [h1 a List.mem_cons_self e, prod_bump f g key s m l nd.2 hs' (fun b hb => h1 b (List.mem_cons_of_mem _ hb)) (fun b hb => h2 b (List.mem_cons_of_mem _ hb)), Nat.mul_assoc]
/-- the ways to change ends of a sort about -/
def endsN (rows : Rows2) (es : List Str) : Nat := prodN (rows.map fun r => facN (es.count r.1))
/-- the ways to change corners of a kind, and their ends, about -/
def grpN (rows : Rows2) (ks : List KRow) (cs : List Str) : Nat := prodN (ks.map fun k => facN (cs.count k.1) * endsN rows k.2 ^ cs.count k.1)
theorem count_snoc (es : List Str) (s x : Str) : (es ++ [s]).count x = es.count x + if s = x then 1 else 0 := by
  rw [List.count_append]
  congr 1
  by_cases e : s = x
  · rw [if_pos e, e]
    simp
  · rw [if_neg e]
    exact List.count_eq_zero.mpr fun z => e (List.mem_singleton.mp z).symm
theorem ends_bump {rows : Rows2} {es : List Str} {s : Str} (nd : (rows.map (·.1)).Nodup) (hs : s ∈ rows.map (·.1)) : endsN rows (es ++ [s]) = endsN rows es * (1 + es.count s) := by
  unfold endsN
  refine prod_bump _ _ (fun r : Str × Str => r.1) s _ rows nd hs (fun r _ h => ?_) (fun r _ h => ?_)
  · rw [count_snoc, if_neg (fun z => h z.symm)]
    rfl
  · rw [count_snoc, if_pos h.symm, fac_succ, h, Nat.add_comm 1]
theorem ends_nil (rows : Rows2) : endsN rows [] = 1 := by
  unfold endsN
  induction rows with
  | nil => rfl
  | cons r rows ih =>
    show facN 0 * prodN (rows.map fun r => facN (([] : List Str).count r.1)) = 1
    rw [ih]
    rfl
theorem grp_bump {rows : Rows2} {ks : List KRow} {cs : List Str} {k : KRow} (nd : (ks.map (·.1)).Nodup) (hk : k ∈ ks) : grpN rows ks (cs ++ [k.1]) = grpN rows ks cs * ((1 + cs.count k.1) * endsN rows k.2) := by
  unfold grpN
  refine prod_bump _ _ (fun k : KRow => k.1) k.1 _ ks nd (List.mem_map_of_mem (f := fun k : KRow => k.1) hk) (fun r _ h => ?_) (fun r hr h => ?_)
  · rw [count_snoc, if_neg (fun z => h z.symm)]
    rfl
  · have e : r = k := by
      have key : ∀ {l : List KRow}, (l.map (·.1)).Nodup → r ∈ l → k ∈ l → r = k := by
        intro l nd hr hk
        induction l with
        | nil => exact nomatch hr
        | cons a l ih =>
          rw [List.map_cons, List.nodup_cons] at nd
          rcases List.mem_cons.mp hr with z1 | z1
          · rcases List.mem_cons.mp hk with z2 | z2
            · rw [z1, z2]
            · exact absurd (by rw [← z1, h]; exact List.mem_map_of_mem (f := fun k : KRow => k.1) z2) nd.1
          · rcases List.mem_cons.mp hk with z2 | z2
            · exact absurd (by rw [← z2, ← h]; exact List.mem_map_of_mem (f := fun k : KRow => k.1) z1) nd.1
            · exact ih nd.2 z1 z2
      exact key nd hr hk
    rw [e, count_snoc, if_pos rfl, fac_succ, Nat.pow_succ]
    generalize facN (cs.count k.1) = a
    generalize endsN rows k.2 = b
    generalize cs.count k.1 = c
    rw [Nat.add_comm c 1]
    generalize 1 + c = d
    generalize b ^ c = e
    simp only [Nat.mul_assoc, Nat.mul_comm, Nat.mul_left_comm]
theorem grp_perm {rows : Rows2} {ks : List KRow} {cs ds : List Str} (p : cs.Perm ds) : grpN rows ks cs = grpN rows ks ds := by
  unfold grpN
  exact prod_same _ _ ks fun k _ => by rw [p.count_eq]
theorem grp_nil (rows : Rows2) (ks : List KRow) : grpN rows ks [] = 1 := by
  unfold grpN
  induction ks with
  | nil => rfl
  | cons k ks ih =>
    show facN 0 * endsN rows k.2 ^ 0 * prodN (ks.map fun k => facN (([] : List Str).count k.1) * endsN rows k.2 ^ ([] : List Str).count k.1) = 1
    rw [ih, Nat.pow_zero]
    rfl
end Toy
set_option Elab.async false
set_option linter.all false
set_option maxRecDepth 100000
set_option maxHeartbeats 2000000
namespace Toy
open PySem PySem.Spec PyProof.Rows L2
/-! ### ways to pair -/
def waysA : Nat → Nat
  | 0 => 1
  | 1 => 0
  | n + 2 => (n + 1) * waysA n
def waysX (n m : Nat) : Nat := if n = m then facN n else 0
def ltS (a b : Str) : Bool := decide (a.cps.toList < b.cps.toList)
theorem ltS_one {a b : Str} (h : a ≠ b) : ltS a b = true ∨ ltS b a = true := by
  unfold ltS
  by_cases h1 : a.cps.toList < b.cps.toList
  · exact .inl (decide_eq_true h1)
  · by_cases h2 : b.cps.toList < a.cps.toList
    · exact .inr (decide_eq_true h2)
    · exact absurd (str_ext (List.le_antisymm (List.not_lt.mp h2) (List.not_lt.mp h1))) h
theorem ltS_not {a b : Str} (h : ltS a b = true) : ltS b a = false := by
  unfold ltS at *
  exact decide_eq_false (List.lt_asymm (of_decide_eq_true h))
/-- one row's factor -/
def rowW (xs : List Str) (r : Str × Str) : Nat := if r.1 = r.2 then waysA (xs.count r.1) else if ltS r.1 r.2 = true then waysX (xs.count r.1) (xs.count r.2) else 1
def countW (rows : Rows2) (xs : List Str) : Nat := prodN (rows.map (rowW xs))
structure Mut (rows : Rows2) : Prop where
  nd : (rows.map (·.1)).Nodup
  mt : ∀ r ∈ rows, (r.2, r.1) ∈ rows
theorem Mut.one {rows : Rows2} (m : Mut rows) {r q : Str × Str} (hr : r ∈ rows) (hq : q ∈ rows) (e : r.1 = q.1) : r = q := by
  have key : ∀ {l : Rows2}, (l.map (·.1)).Nodup → r ∈ l → q ∈ l → r = q := by
    intro l nd hr hk
    induction l with
    | nil => exact nomatch hr
    | cons a l ih =>
      rw [List.map_cons, List.nodup_cons] at nd
      rcases List.mem_cons.mp hr with z1 | z1
      · rcases List.mem_cons.mp hk with z2 | z2
        · rw [z1, z2]
        · exact absurd (by rw [← z1, e]; exact List.mem_map_of_mem (f := fun k : Str × Str => k.1) z2) nd.1
      · rcases List.mem_cons.mp hk with z2 | z2
        · exact absurd (by rw [← z2, ← e]; exact List.mem_map_of_mem (f := fun k : Str × Str => k.1) z1) nd.1
        · exact ih nd.2 z1 z2
  exact key m.nd hr hq
/-- the row that tells of x and its partner -/
theorem Mut.row {rows : Rows2} (m : Mut rows) {x p : Str} (h : (x, p) ∈ rows) : ∃ r ∈ rows, (r = (x, p) ∨ r = (p, x)) ∧ (r.1 = r.2 ∨ ltS r.1 r.2 = true) := by
  by_cases e : x = p
  · exact ⟨_, h, .inl rfl, .inl e⟩
  · rcases ltS_one e with l | l
    · exact ⟨_, h, .inl rfl, .inr l⟩
    · exact ⟨_, m.mt _ h, .inr rfl, .inr l⟩
/-- other rows tell of other sorts -/
theorem Mut.other {rows : Rows2} (m : Mut rows) {x p : Str} {r q : Str × Str} (h : (x, p) ∈ rows) (hr : r ∈ rows) (er : r = (x, p) ∨ r = (p, x)) (lr : r.1 = r.2 ∨ ltS r.1 r.2 = true) (hq : q ∈ rows) (ne : q.1 ≠ r.1) (lq : q.1 = q.2 ∨ ltS q.1 q.2 = true) :
    q.1 ≠ x ∧ q.1 ≠ p ∧ q.2 ≠ x ∧ q.2 ≠ p := by
  have hp := m.mt _ h
  have key : ∀ {y z : Str}, (y, z) ∈ rows → q.1 = y → (y = x ∧ z = p ∨ y = p ∧ z = x) → False := by
    intro y z hy e c
    have e2 := m.one hq hy e
    subst e2
    rcases er with rfl | rfl
    · rcases c with ⟨c1, c2⟩ | ⟨c1, c2⟩
      · exact ne c1
      · subst c1 c2
        rcases lr with l | l
        · exact ne l.symm
        · rcases lq with l2 | l2
          · exact ne l2
          · rw [ltS_not l] at l2
            cases l2
    · rcases c with ⟨c1, c2⟩ | ⟨c1, c2⟩
      · subst c1 c2
        rcases lr with l | l
        · exact ne l.symm
        · rcases lq with l2 | l2
          · exact ne l2
          · rw [ltS_not l] at l2
            cases l2
      · exact ne c1
  have hq' := m.mt _ hq
  refine ⟨fun e => key h e (.inl ⟨rfl, rfl⟩), fun e => key hp e (.inr ⟨rfl, rfl⟩), fun e => ?_, fun e => ?_⟩
  · have e2 := m.one hq' h e
    injection e2 with _ e3
    exact key hp e3 (.inr ⟨rfl, rfl⟩)
  · have e2 := m.one hq' hp e
    injection e2 with _ e3
    exact key h e3 (.inl ⟨rfl, rfl⟩)
theorem prod_zero {α : Type} (f : α → Nat) : ∀ l : List α, (∃ a ∈ l, f a = 0) → prodN (l.map f) = 0
  | [], ⟨_, h, _⟩ => nomatch h
  | a :: l, ⟨b, hb, e⟩ => by
    show f a * prodN (l.map f) = 0
    rcases List.mem_cons.mp hb with z | z
    · rw [← z, e, Nat.zero_mul]
    · rw [prod_zero f l ⟨b, z, e⟩, Nat.mul_zero]
theorem cnt_ne {x y : Str} (h : y ≠ x) (xs : List Str) : (x :: xs).count y = xs.count y := List.count_cons_of_ne (fun e => h e.symm)
theorem cnt_eq (x : Str) (xs : List Str) : (x :: xs).count x = xs.count x + 1 := List.count_cons_self
theorem ways_pair {rows : Rows2} (m : Mut rows) {x p : Str} (h : (x, p) ∈ rows) (e : List Str) : countW rows (x :: p :: e) = countW rows e * (e.count p + 1) := by
  obtain ⟨r, hr, er, lr⟩ := m.row h
  unfold countW
  refine prod_bump _ _ (fun r : Str × Str => r.1) r.1 _ rows m.nd (List.mem_map_of_mem (f := fun r : Str × Str => r.1) hr) (fun q hq ne => ?_) (fun q hq eq => ?_)
  · unfold rowW
    by_cases c1 : q.1 = q.2
    · obtain ⟨n1, n2, _, _⟩ := m.other h hr er lr hq ne (.inl c1)
      rw [if_pos c1, if_pos c1, cnt_ne n1, cnt_ne n2]
    · rw [if_neg c1, if_neg c1]
      by_cases c2 : ltS q.1 q.2 = true
      · obtain ⟨n1, n2, n3, n4⟩ := m.other h hr er lr hq ne (.inr c2)
        rw [if_pos c2, if_pos c2, cnt_ne n1, cnt_ne n2, cnt_ne n3, cnt_ne n4]
      · rw [if_neg c2, if_neg c2]
  · have e1 := m.one hq hr eq
    subst e1
    unfold rowW
    by_cases c1 : q.1 = q.2
    · rw [if_pos c1, if_pos c1]
      have xp : x = q.1 ∧ p = q.1 := by
        rcases er with z | z
        · have z1 := congrArg Prod.fst z
          have z2 := congrArg Prod.snd z
          exact ⟨z1.symm, by rw [c1]; exact z2.symm⟩
        · have z1 := congrArg Prod.fst z
          have z2 := congrArg Prod.snd z
          exact ⟨by rw [c1]; exact z2.symm, z1.symm⟩
      rw [xp.1, xp.2, cnt_eq, cnt_eq]
      show (e.count q.1 + 1) * waysA (e.count q.1) = _
      rw [Nat.mul_comm]
    · have c2 : ltS q.1 q.2 = true := lr.resolve_left c1
      rw [if_neg c1, if_neg c1, if_pos c2, if_pos c2]
      have two : (x :: p :: e).count q.1 = e.count q.1 + 1 ∧ (x :: p :: e).count q.2 = e.count q.2 + 1 := by
        rcases er with z | z
        · have z1 : q.1 = x := congrArg Prod.fst z
          have z2 : q.2 = p := congrArg Prod.snd z
          have np : p ≠ x := fun y => c1 (by rw [z1, z2, y])
          rw [z1, z2, cnt_eq, cnt_ne np.symm, cnt_ne np, cnt_eq]
          exact ⟨rfl, rfl⟩
        · have z1 : q.1 = p := congrArg Prod.fst z
          have z2 : q.2 = x := congrArg Prod.snd z
          have np : p ≠ x := fun y => c1 (by rw [z1, z2, y])
          rw [z1, z2, cnt_ne np, cnt_eq, cnt_eq, cnt_ne np.symm]
          exact ⟨rfl, rfl⟩
      rw [two.1, two.2]
      unfold waysX
      by_cases c3 : e.count q.1 = e.count q.2
      · rw [if_pos (by omega), if_pos c3, fac_succ]
        rcases er with z | z
        · have z2 : q.2 = p := congrArg Prod.snd z
          rw [c3, z2]
        · have z1 : q.1 = p := congrArg Prod.fst z
          rw [z1]
      · rw [if_neg (by omega), if_neg c3, Nat.zero_mul]
theorem ways_none {rows : Rows2} (m : Mut rows) {x p : Str} (h : (x, p) ∈ rows) {e : List Str} (c0 : e.count p = 0) : countW rows (x :: e) = 0 := by
  obtain ⟨r, hr, er, lr⟩ := m.row h
  refine prod_zero _ rows ⟨r, hr, ?_⟩
  unfold rowW
  by_cases c1 : r.1 = r.2
  · have xp : x = r.1 ∧ p = r.1 := by
      rcases er with z | z
      · have z1 := congrArg Prod.fst z
        have z2 := congrArg Prod.snd z
        exact ⟨z1.symm, by rw [c1]; exact z2.symm⟩
      · have z1 := congrArg Prod.fst z
        have z2 := congrArg Prod.snd z
        exact ⟨by rw [c1]; exact z2.symm, z1.symm⟩
    rw [if_pos c1, xp.1, cnt_eq, ← xp.2, c0]
    rfl
  · have c2 : ltS r.1 r.2 = true := lr.resolve_left c1
    rw [if_neg c1, if_pos c2]
    unfold waysX
    rcases er with z | z
    · have z1 : r.1 = x := congrArg Prod.fst z
      have z2 : r.2 = p := congrArg Prod.snd z
      have np : p ≠ x := fun y => c1 (by rw [z1, z2, y])
      rw [z1, z2, cnt_eq, cnt_ne np, c0, if_neg (by omega)]
    · have z1 : r.1 = p := congrArg Prod.fst z
      have z2 : r.2 = x := congrArg Prod.snd z
      have np : p ≠ x := fun y => c1 (by rw [z1, z2, y])
      rw [z1, z2, cnt_eq, cnt_ne np, c0, if_neg (by omega)]
theorem ways_nil (rows : Rows2) : countW rows [] = 1 := by
  unfold countW
  induction rows with
  | nil => rfl
  | cons r rows ih =>
    show rowW [] r * prodN (rows.map (rowW [])) = 1
    rw [ih, Nat.mul_one]
    unfold rowW
    by_cases c1 : r.1 = r.2
    · rw [if_pos c1]
      rfl
    · rw [if_neg c1]
      by_cases c2 : ltS r.1 r.2 = true
      · rw [if_pos c2]
        rfl
      · rw [if_neg c2]
theorem ways_perm {rows : Rows2} {xs ys : List Str} (p : xs.Perm ys) : countW rows xs = countW rows ys := by
  unfold countW
  refine prod_same _ _ rows fun r _ => ?_
  unfold rowW
  rw [p.count_eq, p.count_eq]
end Toy
set_option Elab.async false
set_option linter.all false
set_option maxRecDepth 100000
set_option maxHeartbeats 4000000
namespace Toy
open PySem PySem.Spec PyProof.Rows L2
theorem waysA_le : ∀ n, n ≤ 60 → waysA n ≤ 64 ^ n
  | 0, _ => by decide
  | 1, _ => by decide
  | n + 2, h => by
    show (n + 1) * waysA n ≤ 64 ^ (n + 2)
    have ih := waysA_le n (by omega)
    have e : 64 ^ (n + 2) = (64 * 64) * 64 ^ n := by rw [Nat.pow_add, Nat.mul_comm]
    rw [e]
    exact Nat.mul_le_mul (by omega) ih
theorem facN_le : ∀ n, n ≤ 60 → facN n ≤ 64 ^ n
  | 0, _ => by decide
  | n + 1, h => by
    have ih := facN_le n (by omega)
    rw [fac_succ, Nat.pow_succ]
    exact Nat.mul_le_mul ih (by omega)
theorem rowW_le (xs : List Str) (r : Str × Str) (h : xs.length ≤ 60) : rowW xs r ≤ 2 ^ 360 := by
  have c1 : xs.count r.1 ≤ 60 := Nat.le_trans List.count_le_length h
  have up : ∀ n, n ≤ 60 → (64 : Nat) ^ n ≤ 2 ^ 360 := fun n hn => by
    have e : (2 : Nat) ^ 360 = 64 ^ 60 := by decide
    rw [e]
    exact Nat.pow_le_pow_right (by decide) hn
  unfold rowW
  split
  · exact Nat.le_trans (waysA_le _ c1) (up _ c1)
  · split
    · unfold waysX
      split
      · exact Nat.le_trans (facN_le _ c1) (up _ c1)
      · exact Nat.zero_le _
    · exact Nat.one_le_two_pow
theorem countW_le (xs : List Str) (h : xs.length ≤ 60) : ∀ rows : Rows2, countW rows xs ≤ 2 ^ (360 * rows.length)
  | [] => Nat.le_refl 1
  | r :: rows => by
    show rowW xs r * countW rows xs ≤ 2 ^ (360 * (rows.length + 1))
    have e : 2 ^ (360 * (rows.length + 1)) = 2 ^ 360 * 2 ^ (360 * rows.length) := by rw [← Nat.pow_add]; congr 1; omega
    rw [e]
    exact Nat.mul_le_mul (rowW_le xs r h) (countW_le xs h rows)
theorem countW_snoc (rows : Rows2) (r : Str × Str) (xs : List Str) : countW (rows ++ [r]) xs = countW rows xs * rowW xs r := by
  unfold countW
  rw [List.map_append, prodN_app]
  show _ * (_ * 1) = _
  rw [Nat.mul_one]
/-- the product of the odd numbers below -/
theorem waysA_odd : ∀ k, waysA (2 * (k + 1)) = waysA (2 * k) * (1 + k * 2)
  | k => by
    show (2 * k + 1) * waysA (2 * k) = _
    rw [Nat.mul_comm, Nat.mul_comm k 2, Nat.add_comm]
theorem waysA_zero : ∀ k, waysA (2 * k + 1) = 0
  | 0 => rfl
  | k + 1 => by
    show (2 * k + 1 + 1) * waysA (2 * k + 1) = 0
    rw [waysA_zero k, Nat.mul_zero]
theorem rng_odd : ∀ k, k < 40 → RgC 1 ((2 * k : Nat) : Int) 2 k := by
  intro k hk
  refine ⟨by decide, by decide, ?_, ?_⟩
  · have all : ∀ k, k < 40 → Builtin.Range.small 1 ((2 * k : Nat) : Int) 2 = true := by decide +kernel
    exact all k hk
  · have all : ∀ k, k < 40 → Builtin.Range.rangeSize 1 ((2 * k : Nat) : Int) 2 = k := by decide +kernel
    exact all k hk
def spAlone : Sp := fun vs H Q _ => ∃ n : Nat, vs = [.int (n : Int)] ∧ n ≤ 60 ∧ Q (.int (waysA n : Nat)) H
def spAcross : Sp := fun vs H Q _ => ∃ n m : Nat, vs = [.int (n : Int), .int (m : Int)] ∧ n ≤ 60 ∧ Q (.int (waysX n m : Nat)) H
section
variable {P : Program} {w : World} {K : PySem.W.Frag} {mg : Str → Option Value} {base : Heap}
theorem scAlone : FnScope ["many", "total", "odd"] ["many"] (defScope sAlone) := ⟨rfl, rfl, rfl, by decide +kernel, rfl, by decide +kernel, by decide +kernel⟩
theorem ok_alone {f : Addr} {fd : FuncData} (F : Fun K "ways_alone" "ways_alone" sAlone f fd) (mR : mg "range" = none) : FnOk P w K mg base CX0 1 f fd ["many"] spAlone := by
  refine F.ok scAlone (fun vs H Q E h => ?_) (fun cdv A outer s H vs Q E hr h => ?_)
  · obtain ⟨n, rfl, _⟩ := h
    rfl
  · obtain ⟨n, rfl, hn, k⟩ := h
    refine ⟨_, (pss_cons (ps_if (pt_truth (pe_op op_mod (pv 0) pe_int) (by intro _; rfl)) (pss_one (ps_ret pe_int)) pss_nil)
      (pss_cons (ps_set (i := 1) scAlone.nd rfl (Or.inl rfl) pe_int)
      (pss_cons (ps_for PassesOwn.never rfl (pi_range3 (by rfl) mR (pa_cons pe_int (pa_cons (pv 0) (pa_cons pe_int pa_nil)))) (pg_name (i := 2) scAlone.nd rfl (Or.inl rfl)) (pss_one (ps_set (i := 1) scAlone.nd rfl (Or.inl rfl) (pe_op op_mul (pv 1) (pv 2)))))
      (pss_one (ps_ret (pv 1)))))), ?_⟩
    refine ⟨_, rfl, _, _, rfl, rfl, (by show (0 : Int) < 2; decide), _, rfl, ?_⟩
    obtain ⟨q, hq⟩ : ∃ q, n = 2 * q ∨ n = 2 * q + 1 := ⟨n / 2, by omega⟩
    rcases hq with rfl | rfl
    · have e : (((2 * q : Nat) : Int) % 2) = 0 := by omega
      dsimp only
      rw [e, if_neg (by decide)]
      refine ⟨_, rfl, 1, _, 2, q, rfl, rng_odd q (by omega), for_rangeC (fun i σ H' => H' = H ∧ ∃ y2, σ = [some (.int ((2 * q : Nat) : Int)), some (.int (waysA (2 * i) : Nat)), y2]) ⟨rfl, none, rfl⟩ ?_ ?_⟩
      · rintro i σ H1 hi ⟨e1, y2, rfl⟩
        have e3 : H = H1 := e1.symm
        clear e1
        subst e3
        refine ⟨_, rfl, _, rfl, _, _, rfl, rfl, .inr ⟨by omega, by omega⟩, rfl, some (.int (1 + (i : Int) * 2)), ?_⟩
        rw [waysA_odd, Int.natCast_mul]
        rfl
      · rintro σ H1 ⟨e1, y2, rfl⟩
        have e3 : H = H1 := e1.symm
        clear e1
        subst e3
        exact ⟨_, rfl, k⟩
    · have e : (((2 * q + 1 : Nat) : Int) % 2) = 1 := by omega
      dsimp only
      rw [e, if_pos (by decide)]
      rw [waysA_zero] at k
      exact k
theorem scAcross : FnScope ["many", "others"] ["many", "others"] (defScope sAcross) := ⟨rfl, rfl, rfl, by decide +kernel, rfl, by decide +kernel, by decide +kernel⟩
theorem ok_across {f : Addr} {fd : FuncData} (F : Fun K "ways_across" "ways_across" sAcross f fd) (mF : mg "factorial" = some (.builtin "math.factorial")) : FnOk P w K mg base CX0 1 f fd ["many", "others"] spAcross := by
  refine F.ok scAcross (fun vs H Q E h => ?_) (fun cdv A outer s H vs Q E hr h => ?_)
  · obtain ⟨n, m, rfl, _⟩ := h
    rfl
  · obtain ⟨n, m, rfl, hn, k⟩ := h
    refine ⟨_, (pss_cons (ps_if (pt_cmpR op_ne (pv 0) (pv 1) (nomark _)) (pss_one (ps_ret pe_int)) pss_nil)
      (pss_one (ps_ret (pe_callBfun cr_fac (by rfl) mF (pa_cons (pv 0) pa_nil))))), ?_⟩
    refine ⟨_, rfl, _, rfl, rfl, _, rfl, ite2 (fun c => ?_) (fun c => ?_)⟩
    · have e : waysX n m = 0 := by
        unfold waysX
        rw [if_neg]
        intro z
        subst z
        simp at c
      rw [e] at k
      exact k
    · have e : n = m := by
        by_cases z : n = m
        · exact z
        · exfalso
          apply c
          have z2 : ¬ ((n : Int) = (m : Int)) := by omega
          simp [z2]
      unfold waysX at k
      rw [if_pos e] at k
      exact ⟨_, rfl, n, rfl, by omega, k⟩
end
end Toy
set_option Elab.async false
set_option linter.all false
set_option maxRecDepth 100000
set_option maxHeartbeats 4000000
namespace Toy
open PySem PySem.Spec PyProof.Rows L2
def sortsE (ks : List KRow) (cs : List Str) (lg : Rows2) : List Str := cs.flatMap (kEnds ks) ++ lg.map (·.2)
theorem allE_sorts (ks : List KRow) (cs : List Str) (lg : Rows2) : (allE ks cs lg).map (·.2) = sortsE ks cs lg := by
  unfold allE sortsE
  rw [List.map_append, cornE_sorts, legE_sorts]
theorem sortsE_len {ks : List KRow} {cs : List Str} {lg : Rows2} (k5 : ∀ k ∈ ks, k.2.length ≤ 5) (l6 : cs.length ≤ 6) (g6 : lg.length ≤ 6) : (sortsE ks cs lg).length ≤ 36 := by
  have e := congrArg List.length (allE_sorts ks cs lg)
  rw [List.length_map] at e
  rw [← e]
  unfold allE
  have h1 := cornE_len k5 cs 0
  have h2 := congrArg List.length (legE_sorts lg cs.length)
  rw [List.length_map, List.length_map] at h2
  rw [List.length_append]
  omega
theorem legs_data {keys : List Str} {ld : PyData} (h : legsD keys ld = true) : ∃ lg : Rows2, ld = .list (lg.map rowT) ∧ lg.length ≤ 6 := by
  cases ld with
  | list ds =>
    have h2 : (decide (ds.length ≤ 6) && (ds.all (legD keys) && (PyData.eqv (.list ds) (.list (sortD ds)) && decide (ds.map name0).Nodup))) = true := h
    rw [Bool.and_eq_true, Bool.and_eq_true, decide_eq_true_eq, List.all_eq_true] at h2
    obtain ⟨lg, e⟩ := legs_rows h2.2.1
    subst e
    have q := h2.1
    rw [List.length_map] at q
    exact ⟨lg, rfl, q⟩
  | _ => cases h
theorem corners_data {keys : List Str} {H : Hp} {cv : V} {cd : PyData} (hc : Dt H cv cd) (h : cornersD keys cd = true) : ∃ (c : Addr) (cs : List Str), cv = .ref c ∧ cd = .list (cs.map .str) ∧ H c = some (.lst (cs.map V.str)) ∧ cs.length ≤ 6 ∧ ∀ x ∈ cs, x ∈ keys := by
  cases hc with
  | lst e l r =>
    rename_i c xs ds
    have h1' : (decide (ds.length ≤ 6) && ds.all fun d => nameD d && decide (strO d ∈ keys)) = true := h
    rw [Bool.and_eq_true, decide_eq_true_eq, List.all_eq_true] at h1'
    obtain ⟨exs, eds⟩ := strs_of r fun d hd => by
      have q := h1'.2 d hd
      rw [Bool.and_eq_true] at q
      exact q.1
    have hk : ∀ x ∈ ds.map strO, x ∈ keys := fun x hx => by
      obtain ⟨d, hd, rfl⟩ := List.mem_map.mp hx
      have q := h1'.2 d hd
      rw [Bool.and_eq_true, decide_eq_true_eq] at q
      exact q.2
    have hl := h1'.1
    generalize ds.map strO = cs at exs eds hk
    subst exs
    subst eds
    rw [List.length_map] at hl
    exact ⟨c, cs, rfl, rfl, e, hl, hk⟩
  | _ => cases h
def spCount (C CN : Addr) : Sp := fun vs H Q E => ∃ (a : Addr) (rows : Rows2) (ks : List KRow) (cv lv : V) (cd ld : PyData), vs = [.ref a, cv, lv] ∧ StkP C H a rows ks ∧ rows.length ≤ 3 ∧ (∀ k ∈ ks, k.2.length ≤ 5) ∧ Dt H cv cd ∧ Dt H lv ld ∧
  (cornersD (ks.map (·.1)) cd = false → ∀ H' d, H d = none → Same H H' → H' d = some (.xd [("part", .str "corners")]) → E (.ref CN) (some d) H') ∧
  (cornersD (ks.map (·.1)) cd = true → legsD (rows.map (·.1)) ld = false → ∀ H' d, H d = none → Same H H' → H' d = some (.xd [("part", .str "legs")]) → E (.ref CN) (some d) H') ∧
  (∀ (cs : List Str) (lg : Rows2), cd = .list (cs.map .str) → ld = .list (lg.map rowT) → cornersD (ks.map (·.1)) cd = true → legsD (rows.map (·.1)) ld = true → ∀ H', Same H H' → Q (.int (countW rows (sortsE ks cs lg) : Nat)) H')
section
variable {P : Program} {w : World} {K : PySem.W.Frag} {mg : Str → Option Value} {base : Heap}
abbrev coN : List Str := ["stock", "corners", "legs", "sorts", "place", "sort", "total", "partner"]
theorem scCount : FnScope coN ["stock", "corners", "legs"] (defScope sCount) := ⟨rfl, rfl, rfl, by decide +kernel, rfl, by decide +kernel, by decide +kernel⟩
theorem ok_count {f fP fX fA fO fZ C CN CS : Addr} {fd fdP fdA fdO fdZ : FuncData} (F : Fun K "count" "count" sCount f fd) (M : Mods mg) (T : StkC K mg C CS fX)
    (GP : FnOk P w K mg base (L2.CX P w) 4 fP fdP ["stock", "corners", "legs"] (spPlaces C CN)) (kP : PySem.W.keepIn K (.ref fP) = true) (bP : Binds K fdP ["stock", "corners", "legs"] []) (gP : mg "check_places" = some (.ref fP))
    (GA : FnOk P w K mg base CX0 1 fA fdA ["stock", "corners", "legs"] (spAllEnds C)) (kA : PySem.W.keepIn K (.ref fA) = true) (bA : Binds K fdA ["stock", "corners", "legs"] []) (gA : mg "all_ends" = some (.ref fA))
    (GO : FnOk P w K mg base CX0 1 fO fdO ["many"] spAlone) (kO : PySem.W.keepIn K (.ref fO) = true) (bO : Binds K fdO ["many"] []) (gO : mg "ways_alone" = some (.ref fO))
    (GX : FnOk P w K mg base CX0 1 fZ fdZ ["many", "others"] spAcross) (kX : PySem.W.keepIn K (.ref fZ) = true) (bX : Binds K fdZ ["many", "others"] []) (gX : mg "ways_across" = some (.ref fZ)) :
    FnOk P w K mg base (L2.CX P w) 5 f fd ["stock", "corners", "legs"] (spCount C CN) := by
  refine F.okX scCount (fun vs H Q E h => ?_) (fun cdv A outer s H vs Q E hr h => ?_)
  · obtain ⟨a, rows, ks, cv, lv, cd, ld, rfl, _⟩ := h
    rfl
  · obtain ⟨a, rows, ks, cv, lv, cd, ld, rfl, sg, r3, k5, hc, hl, no1, no2, yes⟩ := h
    have hr1 : Room 1 (A.deeper (envOfC "count" (defScope sCount) s.heap.objs.size f cdv)) := hr.mono (by decide)
    refine ⟨_, (pss_cons (ps_expr (pe_call GP hr (by rfl) gP kP bP .nil (passes_call (takes_of rfl rfl rfl rfl) (fun _ _ _ _ h => h)) (pa_cons (pv 0) (pa_cons (pv 1) (pa_cons (pv 2) pa_nil)))))
      (pss_cons (ps_setLc (i := 3) (own := [("place", 4), ("sort", 5)]) (g := gTup K 2 (gCons (gName 4) (gCons (gName 5) gNil))) (tt := tYes) (te := tVar 5) rfl scCount.nd rfl rfl (sw_true rfl rfl rfl (by decide +kernel)) (pi_list (pe_call GA hr1 (by rfl) gA kA bA .nil pass0 (pa_cons (pv 0) (pa_cons (pv 1) (pa_cons (pv 2) pa_nil))))) (blkOk_by (N := coN) (sc := defScope sCount) (by decide +kernel)) (fun _ _ _ _ _ => (pg_tup rfl (pgs_cons (pg_name (i := 4) scCount.nd rfl (Or.inl rfl)) (pgs_cons (pg_name (i := 5) scCount.nd rfl (Or.inl rfl)) pgs_nil)))) (fun _ _ _ _ _ => pts_nil) (fun _ _ _ _ _ => (by exact (pv 5))))
      (pss_cons (ps_set (i := 6) scCount.nd rfl (Or.inl rfl) pe_int)
      (pss_cons (ps_for (passes_of rfl) rfl (pi_list (pe_fld (pv 0) rfl)) (pg_tup rfl (pgs_cons (pg_name (i := 5) scCount.nd rfl (Or.inl rfl)) (pgs_cons (pg_name (i := 7) scCount.nd rfl (Or.inl rfl)) pgs_nil))) (pss_one (ps_if (pt_cmpR op_eq (pv 5) (pv 7) (nomark _)) (pss_one (ps_set (i := 6) scCount.nd rfl (Or.inl rfl) (pe_op op_mulW (pv 6) (pe_call GO hr1 (by rfl) gO kO bO .nil pass0 (pa_cons (pe_bm PySem.F.plainAttrs_list PySem.F.slot_list_count PySem.F.type_list_count mt_lcountS (pv 3) (pa_cons (pv 5) pa_nil)) pa_nil))))) (pss_one (ps_if (pt_cmpR op_lt_str (pv 5) (pv 7) (nomark _)) (pss_one (ps_set (i := 6) scCount.nd rfl (Or.inl rfl) (pe_op op_mulW (pv 6) (pe_call GX hr1 (by rfl) gX kX bX .nil pass0 (pa_cons (pe_bm PySem.F.plainAttrs_list PySem.F.slot_list_count PySem.F.type_list_count mt_lcountS (pv 3) (pa_cons (pv 5) pa_nil)) (pa_cons (pe_bm PySem.F.plainAttrs_list PySem.F.slot_list_count PySem.F.type_list_count mt_lcountS (pv 3) (pa_cons (pv 7) pa_nil)) pa_nil)))))) pss_nil)))))
      (pss_one (ps_ret (pv 6))))))), ?_⟩
    refine ⟨_, rfl, _, rfl, _, rfl, a, rows, ks, cv, lv, cd, ld, rfl, sg.g, hc, hl, no1, no2, fun h1 h2 H1 s1 => ?_⟩
    obtain ⟨c, cs, rfl, rfl, hcx, l6, hcs⟩ := corners_data hc h1
    obtain ⟨lg, rfl, g6⟩ := legs_data h2
    have yes := yes cs lg rfl rfl h1 h2
    obtain ⟨g, gs, rfl, hgx, _, _⟩ : ∃ g gs, lv = .ref g ∧ H g = some (.lst gs) ∧ gs.length ≤ 1000 ∧ DtAll H gs (lg.map rowT) := by
      cases hl with
      | lst e l r => exact ⟨_, _, rfl, e, l, r⟩
    have len36 := sortsE_len k5 l6 g6
    generalize hES : sortsE ks cs lg = ES at yes len36
    refine ⟨_, rfl, _, rfl, _, rfl, a, c, g, rows, ks, cs, lg, rfl, sg.same s1, k5, s1 _ _ hcx, l6, hcs, hl.same s1, g6, fun p H2 vs np s2 hp ev => ?_⟩
    have s12 := s1.trans s2
    have lvs : vs.length = ES.length := by
      rw [ev.len, ← hES, ← allE_sorts, List.length_map]
    refine ⟨p, rfl, ⟨_, SqL.of hp⟩, fun D nD => ?_⟩
    refine lc_it walk_list (fun j H' => Same H2 (del H' D) ∧ H' D = some (.lst ((ES.take j).map V.str))) ⟨same_del' nD, upd_same⟩ (fun j H' _ h => SqL.of (del_sub _ _ (h.1 _ _ hp))) ?_ ?_
    · rintro j x H3 H4 hj ⟨s3, hD3⟩ ⟨rfl, hx⟩
      obtain ⟨e, he, q, rfl, tq⟩ := paired_at ev hx
      have tq4 := (tq.same s3).same del_sub
      refine ⟨q, _, rfl, tq4.sq, rfl, _, _, rfl, _, _, rfl, rfl, ?_⟩
      refine ⟨rfl, ?_⟩
      delta tYes
      dsimp only
      rw [if_pos rfl]
      have hes : ES[j]? = some e.2 := by
        rw [← hES, ← allE_sorts, List.getElem?_map, he]
        rfl
      refine ⟨_, rfl, _, hD3, ?_, s3.trans del_upd_same, ?_⟩
      · rw [List.length_map, List.length_take]
        exact small1000 (by omega)
      · rw [upd_same, take_snoc hes, List.map_append]
        rfl
    · rintro H3 ⟨s3, hD3⟩
      rw [lvs, List.take_of_length_le (Nat.le_refl _)] at hD3
      have s13 := s12.trans (s3.trans del_sub)
      obtain ⟨⟨dx, l, m, ea, dl, dm⟩, _, _⟩ := sg.g.at_
      obtain ⟨zs, ez, lz, rz⟩ := dt_list dl
      have lzs : zs.length = rows.length := by rw [rz.len, List.length_map]
      have wle := countW_le ES (by omega)
      refine ⟨_, rfl, a, C, dx, _, _, rfl, s13 _ _ ea, T.cl, T.nS, sf_sorts _ _, l, rfl, ⟨_, SqL.of (s13 _ _ ez)⟩, for_it walk_list (fun j σ H' => H' = H3 ∧ ∃ y4 y5 y7, σ = [some (.ref a), some (.ref c), some (.ref g), some (.ref D), y4, y5, some (.int (countW (rows.take j) ES : Nat)), y7])
        ⟨rfl, _, _, _, rfl⟩ (fun j σ H' _ h => by rw [h.1]; exact SqL.of (s13 _ _ ez)) ?_ ?_⟩
      · rintro j x σ G2 G2' hj ⟨e1, y4, y5, y7, rfl⟩ ⟨e2, hx2⟩
        have e3 : H3 = G2' := by rw [e2, e1]
        clear e1 e2
        subst e3
        obtain ⟨rr, hrr⟩ : ∃ rr, rows[j]? = some rr := ⟨rows[j], List.getElem?_eq_getElem (by omega)⟩
        obtain ⟨q2, rfl, tq2⟩ := row_at rz hx2 hrr
        refine ⟨q2, _, rfl, (tq2.same s13).sq, rfl, _, _, rfl, _, _, rfl, rfl, ?_⟩
        have c1 : ES.count rr.1 ≤ 60 := Nat.le_trans List.count_le_length (by omega)
        have b1 : countW (rows.take j) ES < 2 ^ 2000 := Nat.lt_of_le_of_lt (wle (rows.take j)) (Nat.pow_lt_pow_right (by decide) (by rw [List.length_take]; omega))
        have b2 : rowW ES rr < 2 ^ 2000 := Nat.lt_of_le_of_lt (rowW_le ES rr (by omega)) (Nat.pow_lt_pow_right (by decide) (by decide))
        refine ⟨_, rfl, _, rfl, rfl, _, rfl, ite2 (fun c => ?_) (fun c => ?_)⟩
        · have ce : rr.1 = rr.2 := by
            by_cases z : rr.1 = rr.2
            · exact z
            · exfalso
              have z2 : ¬ (V.str rr.1 = V.str rr.2) := fun q => z (V.str.inj q)
              simp [z] at c
          have erw : rowW ES rr = waysA (ES.count rr.1) := by
            unfold rowW
            rw [if_pos ce]
          rw [erw] at b2
          refine ⟨_, rfl, _, rfl, .inl ⟨rfl, _, SqL.of hD3⟩, _, rfl, D, ES, rr.1, rfl, rfl, SqL.of hD3, _, rfl, c1, _, _, rfl, rfl, wide_mul (a := 2000) (b := 2000) (by rw [Int.natAbs_natCast]; exact b1) (by rw [Int.natAbs_natCast]; exact b2) (by decide) (by decide) (by decide), ?_⟩
          refine ⟨rfl, y4, some (.str rr.1), some (.str rr.2), ?_⟩
          rw [take_snoc hrr, countW_snoc, erw, Int.natCast_mul]
          rfl
        · have ce : ¬ rr.1 = rr.2 := fun z => by
            apply c
            simp [z]
          refine ⟨_, rfl, _, rfl, _, _, rfl, rfl, _, rfl, ite2 (fun c3 => ?_) (fun c3 => ?_)⟩
          · have cl : ltS rr.1 rr.2 = true := c3
            have erw : rowW ES rr = waysX (ES.count rr.1) (ES.count rr.2) := by
              unfold rowW
              rw [if_neg ce, if_pos cl]
            rw [erw] at b2
            refine ⟨_, rfl, _, rfl, .inl ⟨rfl, _, SqL.of hD3⟩, _, rfl, D, ES, rr.1, rfl, rfl, SqL.of hD3, _, rfl, .inl ⟨rfl, _, SqL.of hD3⟩, _, rfl, D, ES, rr.2, rfl, rfl, SqL.of hD3, _, _, rfl, c1, _, _, rfl, rfl, wide_mul (a := 2000) (b := 2000) (by rw [Int.natAbs_natCast]; exact b1) (by rw [Int.natAbs_natCast]; exact b2) (by decide) (by decide) (by decide), ?_⟩
            refine ⟨rfl, y4, some (.str rr.1), some (.str rr.2), ?_⟩
            rw [take_snoc hrr, countW_snoc, erw, Int.natCast_mul]
            rfl
          · have cl : ¬ ltS rr.1 rr.2 = true := c3
            have erw : rowW ES rr = 1 := by
              unfold rowW
              rw [if_neg ce, if_neg cl]
            refine ⟨rfl, y4, some (.str rr.1), some (.str rr.2), ?_⟩
            rw [take_snoc hrr, countW_snoc, erw, Nat.mul_one]
            rfl
      · rintro σ G2 ⟨e1, y4, y5, y7, rfl⟩
        have e3 : H3 = G2 := e1.symm
        clear e1
        subst e3
        rw [lzs, List.take_of_length_le (Nat.le_refl _)]
        exact ⟨_, rfl, yes _ s13⟩
end
end Toy
set_option Elab.async false
set_option linter.all false
set_option maxRecDepth 100000
set_option maxHeartbeats 4000000
namespace Toy
open PySem PySem.Spec PyProof.Rows L2
def spThere : Sp := fun vs H Q _ => ∃ (lk c g : Addr) (ks : List KRow) (ws : List V) (cs : List Str) (lg : Rows2), vs = [.ref lk, .ref c, .ref g] ∧ H lk = some (.lst ws) ∧ Paired (KndP H) ws ks ∧ (ks.map (·.1)).Nodup ∧ (∀ k ∈ ks, k.2.length ≤ 5) ∧ H c = some (.lst (cs.map V.str)) ∧ cs.length ≤ 6 ∧
  (∀ x ∈ cs, x ∈ ks.map (·.1)) ∧ Dt H (.ref g) (.list (lg.map rowT)) ∧ lg.length ≤ 6 ∧ ∀ p H' vs, H p = none → Same H H' → H' p = some (.lst vs) → EndsAt H' vs (allE ks cs lg) → Q (.ref p) H'
section
variable {P : Program} {w : World} {K : PySem.W.Frag} {mg : Str → Option Value} {base : Heap}
abbrev thN : List Str := ["_law_kinds", "_law_corners", "_law_legs", "_law_found", "_law_place", "_law_name", "_law_sort", "_law_at", "_law_leg"]
theorem scThere : FnScope thN ["_law_kinds", "_law_corners", "_law_legs"] (defScope sThere) := ⟨rfl, rfl, rfl, by decide +kernel, rfl, by decide +kernel, by decide +kernel⟩
theorem ok_there {f : Addr} {fd : FuncData} (F : Fun K "_law_there" "_law_there" sThere f fd) (M : Mods mg) (mEn : mg "enumerate" = none) :
    FnOk P w K mg base CX0 1 f fd ["_law_kinds", "_law_corners", "_law_legs"] spThere := by
  refine F.ok scThere (fun vs H Q E h => ?_) (fun cdv A outer s H vs Q E hr h => ?_)
  · obtain ⟨lk, c, g, ks, ws, cs, lg, rfl, _⟩ := h
    rfl
  · obtain ⟨lk, c, g, ks, ws, cs, lg, rfl, hlk, kn, ndk, k5, hc, l6, hcs, dg, lg6, k⟩ := h
    refine ⟨_, (pss_cons (ps_set (i := 3) scThere.nd rfl (Or.inl rfl) (pe_lst pa_nil))
      (pss_cons (ps_for PassesOwn.never rfl (pi_enum (by rfl) mEn (pa_cons (pv 1) pa_nil)) (pg_tup rfl (pgs_cons (pg_name (i := 4) scThere.nd rfl (Or.inr rfl)) (pgs_cons (pg_name (i := 5) scThere.nd rfl (Or.inl rfl)) pgs_nil))) (pss_one (ps_expr (pe_bm PySem.F.plainAttrs_list PySem.F.slot_list_extend PySem.F.type_list_extend mt_extend (pv 3) (pa_cons (pe_lc (own := [("_law_sort", 6)]) (g := gName 6) (tt := tYes) (te := tTup (tCons (tVar 4) (tCons (tVar 6) tNil))) rfl scThere.nd (pi_tup (pe_dget (hu_of hr) (pe_callTy (call_dictP rfl) (by rfl) M.dict_ (by decide +kernel) (pa_cons (pv 0) pa_nil)) (pv 5) (fun _ _ => rfl))) (blkOk_by (N := thN) (sc := defScope sThere) (by decide +kernel)) (fun _ _ _ _ _ => pg_name (i := 6) scThere.nd rfl (Or.inl rfl)) (fun _ _ _ _ _ => pts_nil) (fun _ _ _ _ _ => (by exact (pe_tup (pa_cons (pv 4) (pa_cons (pv 6) pa_nil)))))) pa_nil)))))
      (pss_one (ps_ret (pe_op op_cat (pv 3) (pe_lc (own := [("_law_at", 7), ("_law_leg", 8)]) (g := gTup K 2 (gCons (gName 7) (gCons (gName 8) gNil))) (tt := tYes) (te := tTup (tCons (tOp (rI0 fun i j => .int (i + j)) (tCB (rLen K) (tCons (tVar 1) tNil)) (tVar 7)) (tCons (tOp (rIxT K) (tVar 8) (tC (.int 1))) tNil))) rfl scThere.nd (pi_enum (by rfl) mEn (pa_cons (pv 2) pa_nil)) (blkOk_by (N := thN) (sc := defScope sThere) (by decide +kernel)) (fun _ _ _ _ _ => (pg_tup rfl (pgs_cons (pg_name (i := 7) scThere.nd rfl (Or.inl rfl)) (pgs_cons (pg_name (i := 8) scThere.nd rfl (Or.inl rfl)) pgs_nil)))) (fun _ _ _ _ _ => pts_nil) (fun _ _ _ _ _ => (by exact (pe_tup (pa_cons (pe_op op_add (pe_callB call_len_seq (by rfl) M.len PySem.boot_len (pa_cons (pv 1) pa_nil)) (pv 7)) (pa_cons (pe_ix ix_tup (pv 8) pe_int (fun _ _ => rfl)) pa_nil))))))))))), ?_⟩
    refine ⟨Nat.zero_le _, fun D nD => ?_⟩
    have ncD : c ≠ D := ne_of_none hc nD
    refine ⟨_, rfl, c, _, rfl, SqL.of (same_new nD _ _ hc), for_it walk_enum (fun i σ H' => (∃ y4 y5 y6 y7 y8, σ = [some (.ref lk), some (.ref c), some (.ref g), some (.ref D), y4, y5, y6, y7, y8]) ∧ Same H (del H' D) ∧ ∃ vs, H' D = some (.lst vs) ∧ EndsAt (del H' D) vs (cornE ks 0 (cs.take i)))
      ⟨⟨none, none, none, none, none, rfl⟩, same_del' nD, [], upd_same, .nil⟩ (fun i σ H' _ h => SqL.of (del_sub _ _ (h.2.1 _ _ hc))) ?_ ?_⟩
    · rintro i x σ H2 H3 hi ⟨⟨y4, y5, y6, y7, y8, rfl⟩, s2, vs, hD2, ev⟩ ⟨Tq, u, v, rfl, nT, rfl, hu, hv⟩
      cases hu
      obtain ⟨z, hz, rfl⟩ := map_str_at hv
      have nTD : Tq ≠ D := (ne_of_none hD2 nT).symm
      have t3 := same_new (o := .tup [.int (i : Nat), .str z]) nT
      have hD3 := t3 _ _ hD2
      refine ⟨Tq, _, rfl, SqT.of upd_same, rfl, _, _, rfl, _, _, rfl, rfl, ?_⟩
      have s3 : Same H (del (upd H2 Tq (.tup [.int (i : Nat), .str z])) D) := s2.trans (same_del t3)
      have ev3 := ev.same (same_del (l := D) t3)
      generalize upd H2 Tq (.tup [.int (i : Nat), .str z]) = H3 at t3 hD3 s3 ev3 ⊢
      have hzc : z ∈ cs := List.mem_of_getElem? hz
      have s3' := s3.trans del_sub
      obtain ⟨ps, kts, exs, ekt, pr, okt⟩ := knds_pairs (K := K) (knds_same s3' kn)
      obtain ⟨kt, hkt, ez, ekv⟩ := kts_val kts z (by rw [ekt]; exact hcs z hzc)
      have hkm : kt.1 ∈ ks := by rw [← ekt]; exact List.mem_map_of_mem (f := (·.1)) hkt
      have eks : kEnds ks z = kt.1.2 := by rw [← ez]; exact kEnds_of ndk hkm
      have pt := okt kt hkt
      have e5 := k5 _ hkm
      have li : i < cs.length := by rw [List.length_map] at hi; exact hi
      have cl := cornE_len k5 (cs.take i) 0
      rw [List.length_take] at cl
      have hw3 := s3' _ _ hlk
      rw [exs] at hw3
      refine ⟨_, rfl, .inl ⟨rfl, _, SqL.of hD3⟩, ?_⟩
      refine ⟨_, rfl, lk, ps, _, rfl, SqL.of hw3, pr, fun dp hdp => ?_⟩
      rw [dict_kts (by rw [ekt]; exact ndk)]
      have t4 := same_new (o := .dK (kts.map kvK)) hdp
      have hd4 : upd H3 dp (.dK (kts.map kvK)) dp = some (.dK (kts.map kvK)) := upd_same
      generalize upd H3 dp (.dK (kts.map kvK)) = H4 at t4 hd4 ⊢
      refine ⟨_, rfl, dp, .ref kt.2, rfl, ?_, kt.2, rfl, ⟨_, (pt.same t4).sq⟩, fun D2 nD2 => ?_⟩
      · rw [← ekv]
        exact DGet.k (k := Sum.inr z) hd4
      have hD4 := t4 _ _ hD3
      have nDD : D ≠ D2 := ne_of_none hD4 nD2
      refine lc_it (walk_tup (K := K) (a := kt.2) (xs := kt.1.2.map V.str)) (fun j H' => Same H4 (del H' D2) ∧ ∃ vs2, H' D2 = some (.lst vs2) ∧ EndsAt (del (del H' D2) D) vs2 ((kt.1.2.take j).map fun s => (i, s))) ⟨same_del' nD2, [], upd_same, .nil⟩ (fun j H' _ h => (((pt.same t4).same h.1).same del_sub).sq) ?_ ?_
      · rintro j x H5 H6 hj ⟨s5, vs5, hD5, ev5⟩ hy
        obtain ⟨rfl, hy⟩ := hy
        obtain ⟨y, hy2, rfl⟩ := map_str_at hy
        rw [List.length_map] at hj
        refine ⟨rfl, ?_⟩
        delta tYes
        dsimp only
        rw [if_pos rfl]
        refine ⟨_, rfl, _, rfl, by show 2 ≤ sizeLine; decide, fun tq ntq => ?_⟩
        have ntD2 : tq ≠ D2 := (ne_of_none hD5 ntq).symm
        have ntD : tq ≠ D := (ne_of_none (del_sub _ _ (s5 _ _ hD4)) ntq).symm
        have t6 := same_new (o := .tup [.int (i : Nat), .str y]) ntq
        have htq : upd H6 tq (.tup [.int (i : Nat), .str y]) tq = some (.tup [.int (i : Nat), .str y]) := upd_same
        have hD6 := t6 _ _ hD5
        have s6 := s5.trans (same_del (l := D2) t6)
        have ev6 := ev5.same (same_del (l := D) (same_del (l := D2) t6))
        generalize upd H6 tq (.tup [.int (i : Nat), .str y]) = H7 at t6 htq hD6 s6 ev6 ⊢
        have lvs : vs5.length ≤ 40 := by
          have q := ev5.len
          rw [List.length_map, List.length_take] at q
          omega
        have sd : Same (del H7 D2) (del (upd H7 D2 (.lst (vs5 ++ [.ref tq]))) D2) := del_upd_same
        refine ⟨vs5, hD6, small1000 (by omega), s6.trans sd, vs5 ++ [.ref tq], upd_same, ?_⟩
        rw [take_snoc hy2, List.map_append]
        refine (ev6.same (same_del sd)).app (.cons ⟨tq, rfl, .of ?_⟩ .nil)
        rw [del_ne ntD, del_ne ntD2, upd_ne ntD2]
        exact htq
      · rintro H5 ⟨s5, vs5, hD5, ev5⟩
        rw [List.length_map, List.take_of_length_le (Nat.le_refl _)] at ev5
        have hD5' := del_sub _ _ (s5 _ _ hD4)
        have s45 := t4.trans (s5.trans del_sub)
        have l5 := ev5.len
        rw [List.length_map] at l5
        have lv := ev3.len
        refine ⟨D, D2, vs, vs5, rfl, rfl, hD5', hD5, ?_, ?_⟩
        · rw [lv, l5]
          exact Nat.le_trans (Nat.add_le_add cl e5) (Nat.le_trans (Nat.add_le_add (Nat.mul_le_mul (Nat.le_refl 5) (Nat.min_le_right _ _)) (Nat.le_refl 5)) (by rw [sizeLine_eq]; omega))
        · refine ⟨⟨_, _, _, _, _, rfl⟩, s3.trans ((same_del (l := D) s45).trans del_upd_same), vs ++ vs5, upd_same, ?_⟩
          rw [take_snoc hz, cornE_snoc, eks, List.length_take, Nat.zero_add, Nat.min_eq_left (Nat.le_of_lt li)]
          have sx : Same (del (del H5 D2) D) (del (upd H5 D (.lst (vs ++ vs5))) D) := (same_del del_sub).trans del_upd_same
          exact ((ev3.same (same_del (l := D) s45)).same del_upd_same).app (ev5.same sx)
    · rintro σ H2 ⟨⟨y4, y5, y6, y7, y8, rfl⟩, s2, vs, hD2, ev⟩
      rw [List.length_map, List.take_of_length_le (Nat.le_refl _)] at ev
      obtain ⟨gs, hg, lgs, rg⟩ := dt_list dg
      have t1 := Same.refl H
      have s12 := s2.trans del_sub
      have nD0 := nD
      refine ⟨_, rfl, _, rfl, g, gs, rfl, SqL.of (s12 _ _ (t1 _ _ hg)), fun D2 nD2 => ?_⟩
      have nDD : D ≠ D2 := ne_of_none hD2 nD2
      have ngs : gs.length = lg.length := by rw [rg.len, List.length_map]
      have n2 : H D2 = none := (t1.trans s12).free nD2
      refine lc_it walk_enum (fun j H' => Same H2 (del H' D2) ∧ ∃ vs2, H' D2 = some (.lst vs2) ∧ EndsAt (del H' D2) vs2 (legE cs.length (lg.take j))) ⟨same_del' nD2, [], upd_same, .nil⟩ (fun j H' _ h => SqL.of (del_sub _ _ (h.1 _ _ (s12 _ _ (t1 _ _ hg))))) ?_ ?_
      · rintro j x H3 H4 hj ⟨s3, vs3, hD3, ev3⟩ ⟨Tq, u, v, rfl, nT, rfl, hu, hv⟩
        cases hu
        obtain ⟨gr, hgr⟩ : ∃ gr, lg[j]? = some gr := ⟨lg[j], List.getElem?_eq_getElem (by omega)⟩
        obtain ⟨q, rfl, tq⟩ := row_at rg hv hgr
        have nTD : Tq ≠ D2 := (ne_of_none hD3 nT).symm
        have t4 := same_new (o := .tup [.int (j : Nat), .ref q]) nT
        have hD4 := t4 _ _ hD3
        have s4 := s3.trans (same_del (l := D2) t4)
        have ev4 := ev3.same (same_del (l := D2) t4)
        refine ⟨Tq, _, rfl, SqT.of upd_same, rfl, _, _, rfl, _, _, rfl, rfl, ?_⟩
        generalize upd H3 Tq (.tup [.int (j : Nat), .ref q]) = H4 at t4 hD4 s4 ev4 ⊢
        refine ⟨rfl, ?_⟩
        delta tYes
        dsimp only
        rw [if_pos rfl]
        have tq4 := ((tq.same (t1.trans s12)).same s4).same del_sub
        have hc4 := del_sub _ _ (s4 _ _ (s12 _ _ (t1 _ _ hc)))
        refine ⟨_, rfl, c, _, rfl, .inl (SqL.of hc4), _, rfl, _, _, rfl, rfl, _, rfl, q, _, 1, _, rfl, rfl, tq4.sq, ix1, by show 2 ≤ sizeLine; decide, fun te nte => ?_⟩
        rw [List.length_map]
        have ntD : te ≠ D2 := (ne_of_none hD4 nte).symm
        have t6 := same_new (o := .tup [.int ((cs.length : Nat) + (j : Nat)), .str gr.2]) nte
        have htq : upd H4 te (.tup [.int ((cs.length : Nat) + (j : Nat)), .str gr.2]) te = some (.tup [.int ((cs.length : Nat) + (j : Nat)), .str gr.2]) := upd_same
        have hD6 := t6 _ _ hD4
        have s6 := s4.trans (same_del (l := D2) t6)
        have ev6 := ev4.same (same_del (l := D2) t6)
        generalize upd H4 te (.tup [.int ((cs.length : Nat) + (j : Nat)), .str gr.2]) = H6 at t6 htq hD6 s6 ev6 ⊢
        have lvs : vs3.length ≤ 40 := by
          have q := ev3.len
          have q2 : (legE cs.length (lg.take j)).length = (lg.take j).length := by
            have q3 := congrArg List.length (legE_sorts (lg.take j) cs.length)
            rw [List.length_map, List.length_map] at q3
            exact q3
          rw [q2, List.length_take] at q
          omega
        have sd : Same (del H6 D2) (del (upd H6 D2 (.lst (vs3 ++ [.ref te]))) D2) := del_upd_same
        refine ⟨vs3, hD6, small1000 (by omega), s6.trans sd, vs3 ++ [.ref te], upd_same, ?_⟩
        rw [take_snoc hgr, legE_snoc, List.length_take, Nat.min_eq_left (by omega)]
        refine (ev6.same sd).app (.cons ⟨te, rfl, .of ?_⟩ .nil)
        rw [del_ne ntD, upd_ne ntD]
        exact htq
      · rintro H3 ⟨s3, vs3, hD3, ev3⟩
        rw [ngs, List.take_of_length_le (Nat.le_refl _)] at ev3
        have sAll := s3.trans del_sub
        have hD3' := sAll _ _ hD2
        have evA := ((ev.same del_sub).same sAll).app (ev3.same del_sub)
        have lA := evA.len
        have l1 := cornE_len k5 cs 0
        have q3 := congrArg List.length (legE_sorts lg cs.length)
        rw [List.length_map, List.length_map] at q3
        refine ⟨D, D2, vs, vs3, rfl, rfl, hD3', hD3, ?_, fun R nR => ?_⟩
        · rw [← List.length_append, lA, List.length_append, q3]
          exact Nat.le_trans (Nat.add_le_add l1 lg6) (Nat.le_trans (Nat.add_le_add (Nat.mul_le_mul (Nat.le_refl 5) l6) (Nat.le_refl 6)) (by decide))
        · have t9 := same_new (o := .lst (vs ++ vs3)) nR
          have sT := ((t1.trans s12).trans sAll).trans t9
          exact k R _ _ (((t1.trans s12).trans sAll).free nR) sT upd_same (evA.same t9)
end
end Toy
set_option Elab.async false
set_option linter.all false
set_option maxRecDepth 100000
set_option maxHeartbeats 4000000
namespace Toy
open PySem PySem.Spec PyProof.Rows L2
theorem rep_flat (x : Str) : ∀ n : Nat, (List.replicate n [V.str x]).flatten = (List.replicate n x).map V.str
  | 0 => rfl
  | n + 1 => by
    rw [List.replicate_succ, List.flatten_cons, rep_flat x n, List.replicate_succ, List.map_cons]
    rfl
def wantR (xs : List Str) (r : Str × Str) : List Str := if r.1 = r.2 then List.replicate (xs.count r.1 % 2) r.1 else List.replicate (xs.count r.1 - xs.count r.2) r.2
def wantL (rows : Rows2) (xs : List Str) : List Str := rows.flatMap (wantR xs)
def spWanted : Sp := fun vs H Q _ => ∃ (ls so : Addr) (rows : Rows2) (xs : List Str), vs = [.ref ls, .ref so] ∧ Dt H (.ref ls) (.list (rows.map rowT)) ∧ rows.length ≤ 3 ∧ Mut rows ∧ H so = some (.lst (xs.map V.str)) ∧ xs.length ≤ 60 ∧
  ∀ (p : Addr) (H' : Hp) (ys : List Str), H p = none → Same H H' → H' p = some (.lst (ys.map V.str)) → ys.length ≤ 200 → (∀ y ∈ ys, y ∈ rows.map (·.1)) → ys = wantL rows xs → Q (.ref p) H'
section
variable {P : Program} {w : World} {K : PySem.W.Frag} {mg : Str → Option Value} {base : Heap}
abbrev waN : List Str := ["_law_sorts", "_law_some", "_law_found", "_law_sort", "_law_partner"]
theorem scWanted : FnScope waN ["_law_sorts", "_law_some"] (defScope sWanted) := ⟨rfl, rfl, rfl, by decide +kernel, rfl, by decide +kernel, by decide +kernel⟩
theorem ok_wanted {f : Addr} {fd : FuncData} (F : Fun K "_law_wanted" "_law_wanted" sWanted f fd) (mMx : mg "max" = none) :
    FnOk P w K mg base CX0 1 f fd ["_law_sorts", "_law_some"] spWanted := by
  refine F.ok scWanted (fun vs H Q E h => ?_) (fun cdv A outer s H vs Q E hr h => ?_)
  · obtain ⟨ls, so, rows, xs, rfl, _⟩ := h
    rfl
  · obtain ⟨ls, so, rows, xs, rfl, ds, r3, mu, hso, l60, k⟩ := h
    refine ⟨_, (pss_cons (ps_set (i := 2) scWanted.nd rfl (Or.inl rfl) (pe_lst pa_nil))
      (pss_cons (ps_for PassesOwn.never rfl (pi_list (pv 0)) (pg_tup rfl (pgs_cons (pg_name (i := 3) scWanted.nd rfl (Or.inl rfl)) (pgs_cons (pg_name (i := 4) scWanted.nd rfl (Or.inl rfl)) pgs_nil))) (pss_one (ps_if (pt_cmpR op_eq (pv 3) (pv 4) (nomark _)) (pss_one (ps_expr (pe_bm PySem.F.plainAttrs_list PySem.F.slot_list_extend PySem.F.type_list_extend mt_extend (pv 2) (pa_cons (pe_op op_rep (pe_lst (pa_cons (pv 3) pa_nil)) (pe_op op_mod (pe_bm PySem.F.plainAttrs_list PySem.F.slot_list_count PySem.F.type_list_count mt_lcountS (pv 1) (pa_cons (pv 3) pa_nil)) pe_int)) pa_nil)))) (pss_one (ps_expr (pe_bm PySem.F.plainAttrs_list PySem.F.slot_list_extend PySem.F.type_list_extend mt_extend (pv 2) (pa_cons (pe_op op_rep (pe_lst (pa_cons (pv 4) pa_nil)) (pe_callB (call_max2 rfl) (by rfl) mMx (by decide +kernel) (pa_cons pe_int (pa_cons (pe_op op_sub (pe_bm PySem.F.plainAttrs_list PySem.F.slot_list_count PySem.F.type_list_count mt_lcountS (pv 1) (pa_cons (pv 3) pa_nil)) (pe_bm PySem.F.plainAttrs_list PySem.F.slot_list_count PySem.F.type_list_count mt_lcountS (pv 1) (pa_cons (pv 4) pa_nil))) pa_nil)))) pa_nil)))))))
      (pss_one (ps_ret (pv 2))))), ?_⟩
    refine ⟨Nat.zero_le _, fun D nD => ?_⟩
    obtain ⟨zs, ez, lz, rz⟩ := dt_list ds
    have lzs : zs.length = rows.length := by rw [rz.len, List.length_map]
    refine ⟨_, rfl, ls, rfl, ⟨_, SqL.of (same_new nD _ _ ez)⟩, for_it walk_list (fun j σ H' => (∃ y3 y4, σ = [some (.ref ls), some (.ref so), some (.ref D), y3, y4]) ∧ Same H (del H' D) ∧ ∃ ys : List Str, H' D = some (.lst (ys.map V.str)) ∧ ys.length ≤ 60 * j ∧ (∀ y ∈ ys, y ∈ rows.map (·.1)) ∧ ys = wantL (rows.take j) xs)
      ⟨⟨none, none, rfl⟩, same_del' nD, [], upd_same, Nat.zero_le _, (fun _ z => nomatch z), rfl⟩ (fun j σ H' _ h => SqL.of (del_sub _ _ (h.2.1 _ _ ez))) ?_ ?_⟩
    · rintro j x σ H2 H3 hj ⟨⟨y3, y4, rfl⟩, s2, ys, hD2, ly, hys, eys⟩ ⟨rfl, hx⟩
      obtain ⟨rr, hrr⟩ : ∃ rr, rows[j]? = some rr := ⟨rows[j], List.getElem?_eq_getElem (by omega)⟩
      obtain ⟨q2, rfl, tq2⟩ := row_at rz hx hrr
      have hrm : rr ∈ rows := List.mem_of_getElem? hrr
      have s2' := s2.trans del_sub
      have hso2 := s2' _ _ hso
      refine ⟨q2, _, rfl, (tq2.same s2').sq, rfl, _, _, rfl, _, _, rfl, rfl, ?_⟩
      obtain ⟨W, hW⟩ : ∃ W, wantL (rows.take (j + 1)) xs = W := ⟨_, rfl⟩
      have ext : ∀ (z : Str) (n : Nat) (G : Hp) (u : Addr) (y3 y4 : Option V), z ∈ rows.map (·.1) → n ≤ 60 → Same H3 G → G u = none → wantR xs rr = List.replicate n z →
          ∃ l b xs zs, V.ref D = .ref l ∧ [V.ref u] = [.ref b] ∧ (upd G u (.lst (List.replicate n [V.str z]).flatten)) l = some (.lst xs) ∧ (upd G u (.lst (List.replicate n [V.str z]).flatten)) b = some (.lst zs) ∧ xs.length + zs.length ≤ sizeLine ∧
            (∃ y3 y4, [some (V.ref ls), some (.ref so), some (.ref D), y3, y4] = [some (V.ref ls), some (.ref so), some (.ref D), y3, y4]) ∧ Same H (del (upd (upd G u (.lst (List.replicate n [V.str z]).flatten)) l (.lst (xs ++ zs))) D) ∧ ∃ ys : List Str, (upd (upd G u (.lst (List.replicate n [V.str z]).flatten)) l (.lst (xs ++ zs))) D = some (.lst (ys.map V.str)) ∧ ys.length ≤ 60 * (j + 1) ∧ (∀ y ∈ ys, y ∈ rows.map (·.1)) ∧ ys = W := by
        intro z n G u y3 y4 hz hn sG nu hw
        have t1 := same_new (o := .lst (List.replicate n [V.str z]).flatten) nu
        have hDG := t1 _ _ (sG _ _ hD2)
        have hu : upd G u (.lst (List.replicate n [V.str z]).flatten) u = some (.lst (List.replicate n [V.str z]).flatten) := upd_same
        rw [rep_flat] at hu hDG t1 ⊢
        generalize upd G u (.lst ((List.replicate n z).map V.str)) = G2 at t1 hDG hu ⊢
        refine ⟨D, u, ys.map V.str, (List.replicate n z).map V.str, rfl, rfl, hDG, hu, ?_, ⟨y3, y4, rfl⟩, s2.trans ((same_del (l := D) (sG.trans t1)).trans del_upd_same), ys ++ List.replicate n z, ?_, ?_, ?_, ?_⟩
        · rw [List.length_map, List.length_map, List.length_replicate, sizeLine_eq]
          omega
        · rw [upd_same, List.map_append]
        · rw [List.length_append, List.length_replicate]
          omega
        · intro y hy
          rcases List.mem_append.mp hy with h | h
          · exact hys y h
          · rw [List.eq_of_mem_replicate h]
            exact hz
        · rw [← hW, take_snoc hrr, eys]
          unfold wantL
          rw [List.flatMap_append]
          show _ = _ ++ (wantR xs rr ++ [])
          rw [List.append_nil, hw]
      have c1 : xs.count rr.1 ≤ 60 := Nat.le_trans List.count_le_length l60
      refine ⟨_, rfl, _, rfl, rfl, _, rfl, ite2 (fun c => ?_) (fun c => ?_)⟩
      · have ce : rr.1 = rr.2 := by
          by_cases z : rr.1 = rr.2
          · exact z
          · exfalso
            simp [z] at c
        refine ⟨_, rfl, .inl ⟨rfl, _, SqL.of hD2⟩, _, rfl, by show 1 ≤ sizeLine; decide, fun e0 ne0 => ?_⟩
        have t0 := same_new (o := .lst [.str rr.1]) ne0
        have he0 : upd H3 e0 (.lst [.str rr.1]) e0 = some (.lst [.str rr.1]) := upd_same
        generalize upd H3 e0 (.lst [.str rr.1]) = H4 at t0 he0 ⊢
        refine ⟨_, rfl, .inl ⟨rfl, _, SqL.of (t0 _ _ hso2)⟩, _, rfl, so, xs, rr.1, rfl, rfl, SqL.of (t0 _ _ hso2), _, _, rfl, rfl, (by show (0 : Int) < 2; decide), ?_⟩
        obtain ⟨b, hb, hb2, hb3⟩ : ∃ b : Nat, (((xs.count rr.1 : Nat) : Int) % 2) = (b : Int) ∧ b ≤ 60 ∧ wantR xs rr = List.replicate b rr.1 := ⟨xs.count rr.1 % 2, by omega, by omega, by unfold wantR; rw [if_pos ce]⟩
        dsimp only
        rw [hb]
        refine ⟨e0, _, _, rfl, rfl, he0, by omega, by omega, by rw [sizeLine_eq]; show 1 * ((b : Int)).toNat ≤ _; omega, fun u nu => ?_⟩
        have eb : ((b : Int)).toNat = b := Int.toNat_natCast b
        rw [eb]
        obtain ⟨l, bb, x1, x2, h1, h2, h3, h4, h5, h6, h7, h8⟩ := ext rr.1 b H4 u (some (.str rr.1)) (some (.str rr.2)) (List.mem_map_of_mem (f := (·.1)) hrm) hb2 t0 nu hb3
        rw [← hW] at h8
        exact ⟨l, bb, x1, x2, h1, h2, h3, h4, h5, ⟨_, _, rfl⟩, h7, h8⟩
      · have ce : ¬ rr.1 = rr.2 := fun z => by
          apply c
          simp [z]
        refine ⟨_, rfl, .inl ⟨rfl, _, SqL.of hD2⟩, _, rfl, by show 1 ≤ sizeLine; decide, fun e0 ne0 => ?_⟩
        have t0 := same_new (o := .lst [.str rr.2]) ne0
        have he0 : upd H3 e0 (.lst [.str rr.2]) e0 = some (.lst [.str rr.2]) := upd_same
        generalize upd H3 e0 (.lst [.str rr.2]) = H4 at t0 he0 ⊢
        have hs4 := t0 _ _ hso2
        refine ⟨_, rfl, .inl ⟨rfl, _, SqL.of hs4⟩, _, rfl, so, xs, rr.1, rfl, rfl, SqL.of hs4, _, rfl, .inl ⟨rfl, _, SqL.of hs4⟩, _, rfl, so, xs, rr.2, rfl, rfl, SqL.of hs4, _, _, rfl, rfl, 0, _, rfl, ?_⟩
        obtain ⟨b, hb, hb2, hb3⟩ : ∃ b : Nat, (if ((xs.count rr.1 : Nat) : Int) - ((xs.count rr.2 : Nat) : Int) > 0 then ((xs.count rr.1 : Nat) : Int) - ((xs.count rr.2 : Nat) : Int) else 0) = (b : Int) ∧ b ≤ 60 ∧ wantR xs rr = List.replicate b rr.2 := ⟨xs.count rr.1 - xs.count rr.2, by split <;> omega, by omega, by unfold wantR; rw [if_neg ce]⟩
        rw [hb]
        refine ⟨e0, _, _, rfl, rfl, he0, by omega, by omega, by rw [sizeLine_eq]; show 1 * ((b : Int)).toNat ≤ _; omega, fun u nu => ?_⟩
        have eb : ((b : Int)).toNat = b := Int.toNat_natCast b
        rw [eb]
        obtain ⟨l, bb, x1, x2, h1, h2, h3, h4, h5, h6, h7, h8⟩ := ext rr.2 b H4 u (some (.str rr.1)) (some (.str rr.2)) (List.mem_map_of_mem (f := (·.1)) (mu.mt _ hrm)) hb2 t0 nu hb3
        rw [← hW] at h8
        exact ⟨l, bb, x1, x2, h1, h2, h3, h4, h5, ⟨_, _, rfl⟩, h7, h8⟩
    · rintro σ H2 ⟨⟨y3, y4, rfl⟩, s2, ys, hD2, ly, hys, eys⟩
      rw [lzs, List.take_of_length_le (Nat.le_refl _)] at eys
      exact ⟨_, rfl, k D H2 ys nD (s2.trans del_sub) hD2 (by omega) hys eys⟩
end
end Toy
set_option Elab.async false
set_option linter.all false
set_option maxRecDepth 100000
set_option maxHeartbeats 2000000
namespace L2
open PySem PySem.Spec PyProof.Rows Toy
theorem strs_get : ∀ {vs : List Value} {ys : List Str} {j : Nat} {k : Str}, StrsAre vs ys → ys[j]? = some k → ∃ t, vs[j]? = some (.str k t)
  | _, _, j, _, .nil, e => by simp at e
  | _, _, 0, _, .cons n u h, e => by
    cases e
    exact ⟨u, rfl⟩
  | _, _, j + 1, _, .cons n u h, e => strs_get (j := j) h e
theorem erase_mapS : ∀ (ns : List Str) (j : Nat), (ns.map V.str).eraseIdx j = (ns.eraseIdx j).map V.str
  | [], j => by simp
  | a :: r, 0 => by simp
  | a :: r, j + 1 => by
    have ih := erase_mapS r j
    simp [ih]
section
variable {X : Cx}
def rRemS : V → List V → Hp → VK → Prop := fun x xs H Q => ∃ (l : Addr) (ns : List Str) (k : Str) (j : Nat), x = .ref l ∧ xs = [.str k] ∧ H l = some (.lst (ns.map V.str)) ∧ ns[j]? = some k ∧ (∀ m : Nat, m < j → ns[m]? ≠ some k) ∧ Q .non (upd H l (.lst ((ns.eraseIdx j).map V.str)))
theorem mt_removeS : MtM X "list.remove" rRemS := by
  intro pins s σ H x xs v us Q I rx rxs h
  obtain ⟨l, ns, k, j, rfl, rfl, hH, hj, hno, q⟩ := h
  cases rx
  obtain ⟨u, rfl, ru⟩ := rxs.one
  obtain ⟨t, rfl⟩ := ru
  obtain ⟨z, its, n, r, hl, e⟩ := I.lstM hH
  have hi := strs_are r
  rw [List.length_map] at hl z
  have hjn : j < ns.length := (List.getElem?_eq_some_iff.mp hj).1
  have hjl : j < its.toArray.size := by rw [List.size_toArray]; omega
  refine call_meets PySem.F.slot_list_remove ⟨_, e, rfl⟩ PySem.F.entry_list_remove (PySem.F.args_list_remove_2 _ _)
    (MeetsSeq.list_remove l its.toArray n (.str k t) (isStrOf k) (fun y hy => eq_isStrOf k t hi y (by simpa using hy)) j hjl ?_ ?_ (by rw [List.size_toArray]; omega)) ⟨e, ?_⟩
  · obtain ⟨tj, hjt⟩ := strs_get hi hj
    obtain ⟨h1, h2⟩ := List.getElem?_eq_some_iff.mp hjt
    have e1 : its.toArray[j] = .str k tj := by simpa using h2
    rw [e1]
    exact beq_self_eq_true k
  · intro m hm hmj
    have hmn : m < ns.length := by omega
    obtain ⟨tm, hmt⟩ := strs_get hi (List.getElem?_eq_getElem hmn)
    obtain ⟨h1, h2⟩ := List.getElem?_eq_some_iff.mp hmt
    have e1 : its.toArray[m] = .str ns[m] tm := by simpa using h2
    rw [e1]
    refine beq_eq_false_iff_ne.mpr fun e2 => hno m hmj ?_
    rw [List.getElem?_eq_getElem hmn, e2]
  · have rr := r.eraseIdx j
    rw [erase_mapS] at rr
    refine ⟨.non, _, I.lset (its' := its.eraseIdx j) (t' := s.toks) hH e ?_ rr ?_, rfl, q⟩
    · show its.toArray.eraseIdxIfInBounds j = (its.eraseIdx j).toArray
      rw [List.eraseIdxIfInBounds_toArray]
    · have z2 := len_erase ns j
      rw [List.length_map]
      omega
end
end L2
set_option Elab.async false
set_option linter.all false
set_option maxRecDepth 100000
set_option maxHeartbeats 4000000
namespace Toy
open PySem PySem.Spec PyProof.Rows L2
theorem neD_gen {K : PySem.W.Frag} {H : Hp} {Q : VK} {x y : V} {d1 d2 : PyData} (h1 : Dt H x d1) (h2 : Dt H y d2) (l1 : Low 20 d1) (l2 : Low 20 d2) (q : Q (.bl (!PyData.eqv d1 d2)) H) : rNeD K x y H Q := by
  have c1 := h1.can l1.nd
  have c2 := h2.can l2.nd
  have sh1 : SeqAt.shaped d1 = true := by
    unfold SeqAt.shaped
    rw [c1, decide_eq_true (by have := l1.dep; omega)]
    rfl
  have sh2 : SeqAt.shaped d2 = true := by
    unfold SeqAt.shaped
    rw [c2, decide_eq_true (by have := l2.dep; omega)]
    rfl
  exact ⟨d1, d2, h1.dp l1.nd, h2.dp l2.nd, sh1, sh2, q⟩
def kvR (r : Str × Str) : Key × V := (Sum.inr r.1, .str r.2)
theorem val_mut : ∀ {rows : Rows2} {r : Str × Str}, (rows.map (·.1)).Nodup → r ∈ rows → valV (rows.map kvOf) (Sum.inr r.1) = some (.str r.2)
  | [], _, _, h => nomatch h
  | a :: rows, r, nd, h => by
    rw [List.map_cons, List.nodup_cons] at nd
    by_cases e : a.1 = r.1
    · rcases List.mem_cons.mp h with z | z
      · rw [List.map_cons, valV_pos (p := kvOf a) (congrArg Sum.inr e), z]
        rfl
      · exact absurd (by rw [e]; exact List.mem_map_of_mem (f := fun k : Str × Str => k.1) z) nd.1
    · rcases List.mem_cons.mp h with z | z
      · exact absurd (by rw [z]) e
      · rw [List.map_cons, valV_neg (p := kvOf a) (fun q => e (Sum.inr.inj q))]
        exact val_mut nd.2 z
/-- where a thing stands first -/
theorem first_at {p : Str} : ∀ {xs : List Str}, 1 ≤ xs.count p → ∃ j, xs[j]? = some p ∧ (∀ m, m < j → xs[m]? ≠ some p) ∧ xs.Perm (p :: xs.eraseIdx j)
  | [], h => by simp at h
  | x :: xs, h => by
    by_cases e : x = p
    · subst e
      exact ⟨0, rfl, fun m hm => absurd hm (Nat.not_lt_zero _), List.Perm.refl _⟩
    · have h2 : 1 ≤ xs.count p := by
        rw [List.count_cons_of_ne e] at h
        exact h
      obtain ⟨j, h1, h3, pm⟩ := first_at h2
      refine ⟨j + 1, h1, fun m hm => ?_, ?_⟩
      · cases m with
        | zero =>
          intro z
          exact e (Option.some.inj z)
        | succ m => exact h3 m (by omega)
      · show (x :: xs).Perm (p :: x :: xs.eraseIdx j)
        exact (List.Perm.cons x pm).trans (List.Perm.swap p x _)
end Toy
set_option Elab.async false
set_option linter.all false
set_option maxRecDepth 100000
set_option maxHeartbeats 2000000
namespace PySem.F
theorem toy_zip_no_len : typeLookup (.type "zip") "__len__" = pure none := by rw [typeLookup_type, builtinLookup_eq_fast]; kernel_rfl
theorem toy_zip_no_hint : typeLookup (.type "zip") "__length_hint__" = pure none := by rw [typeLookup_type, builtinLookup_eq_fast]; kernel_rfl
end PySem.F
namespace L2
open PySem PySem.Spec PyProof.Rows Toy
/-- pairs of these, in new tuples -/
def ZipAt (H : Hp) (acc xs ys : List V) : Prop := ∀ (j : Nat) (v : V), acc[j]? = some v → ∃ (T : Addr) (x y : V), v = .ref T ∧ xs[j]? = some x ∧ ys[j]? = some y ∧ H T = some (.tup [x, y])
def ZipSt (z TI TO i1 i2 l1 l2 : Addr) (h : Heap) (i : Nat) : Prop := IsPair h TI (.ref i1) (.ref i2) ∧ h.IsListIter i1 l1 i ∧ h.IsListIter i2 l2 i ∧
  ((IsZip h z TI TO .none ∧ ∃ a b, IsPair h TO a b) ∨ ∃ T f oT, IsZipHeld h z TI TO T f ∧ h.get? T = some oT ∧ (∃ oO, h.get? TO = some oO) ∧ T ≠ z ∧ T ≠ i1 ∧ T ≠ i2)
theorem ZipSt.at_ {z TI TO i1 i2 l1 l2 S : Addr} {h h' : Heap} {i : Nat} (st : ZipSt z TI TO i1 i2 l1 l2 h i) (k : ∀ b o, b ≠ S → h.get? b = some o → h'.get? b = some o) (nS : ∀ b ∈ [z, TI, TO, i1, i2], b ≠ S) (hT : ∀ T f, IsZipHeld h z TI TO T f → ∀ o, h.get? T = some o → ∃ o', h'.get? T = some o') :
    ZipSt z TI TO i1 i2 l1 l2 h' i := by
  obtain ⟨hTI, h1, h2, hz⟩ := st
  refine ⟨k _ _ (nS _ (by simp)) hTI, h1.at fun o e => k _ o (nS _ (by simp)) e, h2.at fun o e => k _ o (nS _ (by simp)) e, ?_⟩
  rcases hz with ⟨hz, a, b, hTO⟩ | ⟨T, f, oT, hz, hT0, ⟨oO, hO⟩, r⟩
  · exact .inl ⟨k _ _ (nS _ (by simp)) hz, a, b, k _ _ (nS _ (by simp)) hTO⟩
  · obtain ⟨o', e'⟩ := hT T f hz oT hT0
    exact .inr ⟨T, f, o', k _ _ (nS _ (by simp)) hz, e', ⟨oO, k _ _ (nS _ (by simp)) hO⟩, r⟩
section
variable {X : Cx} {pins : List (Addr × Obj)} {σ : St}
theorem zip_loop {z TI TO i1 i2 l1 l2 S : Addr} (D : ZipApart z TI TO i1 i2 l1 l2) {xs ys : List V} (A : Around) (hA : A.in1.handled = none) (res : Value) {R : Result → Shared → Prop} (hsz : xs.length ≤ 1000) :
    ∀ (k i : Nat) (s : Shared) (H : Hp) (acc : List V), min xs.length ys.length - i = k → i ≤ min xs.length ys.length → Inv X pins σ H s → (∀ b ∈ [z, TI, TO, i1, i2], FpOk X pins H b) → SqL X.K H l1 xs → SqL X.K H l2 ys → ZipSt z TI TO i1 i2 l1 l2 s.heap i →
      H S = some (.lst acc) → l1 ≠ S → l2 ≠ S → acc.length = i → ZipAt H acc xs ys →
      (∀ s' H' acc', Inv X pins σ H' s' → (∀ b o, b ≠ S → H b = some o → H' b = some o) → H' S = some (.lst acc') → acc'.length = min xs.length ys.length → ZipAt H' acc' xs ys → R (.ok (.ret res)) s') →
      codeAny (model X.prog X.w) A (.builtin "list.extend.loop" ⟨[.ref S, .ref z, res], []⟩) R s := by
  intro k
  induction k with
  | zero =>
    intro i s H acc hk hi I hf hx hy st hS n1 n2 ha hz hR
    have hin : i = min xs.length ys.length := by omega
    obtain ⟨its, rv, p, _⟩ := I.list hx
    obtain ⟨its2, rv2, p2, _⟩ := I.list hy
    have e1 := rv.length
    have e2 := rv2.length
    refine codeAny_builtin F.entry_extend_loop ?_
    rw [Around.under_plainId F.plain_extend_loop _]
    show wpAny _ A.in1 (pyNext (.ref z) >>= _) _ _ s
    obtain ⟨hTI, h1, h2, hzs⟩ := st
    have hend : its.toArray[i]? = none ∨ its2.toArray[i]? = none := by
      rcases Nat.le_total xs.length ys.length with h | h
      · exact .inl (by simp; omega)
      · exact .inr (by simp; omega)
    rcases hzs with ⟨hz0, a, b, hTO⟩ | ⟨T, f, oT, hz0, hT, ⟨oO, hO⟩, r1, r3, r4⟩
    · refine wpAny_bind (wpAny_pyNext_zip_end hA D hz0 hTI hTO h1 h2 p.isList p2.isList hend fun h' hk' => ?_)
      have I1 : Inv X pins σ H { s with heap := h' } := I.turnedL (t' := s.toks) (ch := [z, TI, TO, i1, i2]) (fun c o hb q => hk' c o (fun q' => hb (by simp [q'])) (fun q' => hb (by simp [q'])) (fun q' => hb (by simp [q'])) (fun q' => hb (by simp [q'])) q) hf
      exact wpAny_pure (hR _ H acc I1 (fun _ _ _ e => e) hS (by omega) hz)
    · refine wpAny_bind (wpAny_pyNext_zip_end_held hA D hz0 hT hTI h1 h2 p.isList p2.isList hend fun h' hk' => ?_)
      have I1 : Inv X pins σ H { s with heap := h' } := I.turnedL (t' := s.toks) (ch := [z, TI, TO, i1, i2]) (fun c o hb q => hk' c o (fun q' => hb (by simp [q'])) (fun q' => hb (by simp [q'])) (fun q' => hb (by simp [q'])) q) hf
      exact wpAny_pure (hR _ H acc I1 (fun _ _ _ e => e) hS (by omega) hz)
  | succ k ih =>
    intro i s H acc hk hi I hf hx hy st hS n1 n2 ha hz hR
    have hlt : i < min xs.length ys.length := by omega
    obtain ⟨its, rv, p, _⟩ := I.list hx
    obtain ⟨its2, rv2, p2, _⟩ := I.list hy
    have l1' : i < xs.length := by omega
    have l2' : i < ys.length := by omega
    obtain ⟨u, hu, ru⟩ := rv.get (List.getElem?_eq_getElem l1')
    obtain ⟨u2, hu2, ru2⟩ := rv2.get (List.getElem?_eq_getElem l2')
    have hu' : its.toArray[i]? = some u := by simpa using hu
    have hu2' : its2.toArray[i]? = some u2 := by simpa using hu2
    have nS : ∀ b ∈ [z, TI, TO, i1, i2], b ≠ S := fun b hb e => by
      have q := (hf b hb).1
      rw [e, hS] at q
      cases q
    obtain ⟨hTI, h1, h2, hzs⟩ := st
    have hzl : ∀ b ∈ [z, TI, TO, i1, i2], True := fun _ _ => trivial
    -- behind the next pair
    have go : ∀ (h' : Heap), (∀ b o, b ∉ [z, TI, TO, i1, i2] → s.heap.get? b = some o → h'.get? b = some o) → h'.get? s.heap.objs.size = some { cls := .type "tuple", data := .seq #[u, u2] } → h'.objs.size = s.heap.objs.size + 1 →
        ZipSt z TI TO i1 i2 l1 l2 h' (i + 1) → (∀ b ∈ [z, TI, TO, i1, i2], b < s.heap.objs.size) →
        wpAny (model X.prog X.w) A.in1 (updateSeq S (·.push (.ref s.heap.objs.size)) >>= fun _ => again (.builtin "list.extend.loop" ⟨[.ref S, .ref z, res], []⟩)) (fun fin s' => match fin with | .done f => R (.ok f) s' | .again c' => c'.quiet = true ∧ codeAny (model X.prog X.w) A c' R s') (fun e s' => R (.error e) s') { s with heap := h' } := by
      intro h' hk' hT hsz' st' hlt'
      have new : ObjOk X.prog X.w (upd H s.heap.objs.size (.tup [xs[i], ys[i]])) h' s.heap.objs.size (.tup [xs[i], ys[i]]) :=
        ⟨by show 2 ≤ sizeLine; decide, [u, u2], .cons ru (.cons ru2 .nil), ⟨_, hT, rfl, _, rfl⟩⟩
      have I1 : Inv X pins σ (upd H s.heap.objs.size (.tup [xs[i], ys[i]])) { s with heap := h' } := I.turnedNew (t' := s.toks) (ch := [z, TI, TO, i1, i2]) hk' hf (Nat.le_refl _) new
      have hn : H s.heap.objs.size = none := I.hok.fresh (Nat.le_refl _)
      have sT : ∀ b o, H b = some o → upd H s.heap.objs.size (.tup [xs[i], ys[i]]) b = some o := fun b o e => by
        rw [upd_ne (ne_of_none e hn)]
        exact e
      have nT : s.heap.objs.size ≠ S := fun e => by
        rw [e, hS] at hn
        cases hn
      have hS1 := sT _ _ hS
      have hT1 : upd H s.heap.objs.size (.tup [xs[i], ys[i]]) s.heap.objs.size = some (.tup [xs[i], ys[i]]) := upd_same
      have hf1 : ∀ b ∈ [z, TI, TO, i1, i2], FpOk X pins (upd H s.heap.objs.size (.tup [xs[i], ys[i]])) b := fun b hb => by
        obtain ⟨f0, fr⟩ := hf b hb
        exact ⟨by rw [upd_ne (Nat.ne_of_lt (hlt' b hb))]; exact f0, fr⟩
      generalize hH1 : upd H s.heap.objs.size (.tup [xs[i], ys[i]]) = H1 at I1 sT hS1 hT1 hf1
      obtain ⟨zz, accI, nn, rr, hl, e⟩ := I1.lstM hS1
      have la := rr.length
      refine wpAny_bind ?_
      refine wpAny_updateSeq e rfl (wpAny_pure ⟨plainId_quiet F.plain_extend_loop _, ?_⟩) (by simp; omega) (by simp; omega)
      have I2 : Inv X pins σ (upd H1 S (.lst (acc ++ [.ref s.heap.objs.size]))) { s with heap := h'.update S (Obj.mapSeq (·.push (.ref s.heap.objs.size))), toks := s.toks } :=
        I1.lset (s := { s with heap := h' }) (its' := accI ++ [.ref s.heap.objs.size]) (f := (·.push (.ref s.heap.objs.size))) (t' := s.toks) hS1 e (by simp) (rr.append (.cons (show RelV (V.ref s.heap.objs.size) (Value.ref s.heap.objs.size) from rfl) .nil)) (by rw [List.length_append, List.length_singleton]; omega)
      have sU : ∀ b o, b ≠ S → H1 b = some o → upd H1 S (.lst (acc ++ [.ref s.heap.objs.size])) b = some o := fun b o nb e => by
        rw [upd_ne nb]
        exact e
      have sAll : ∀ b o, b ≠ S → H b = some o → upd H1 S (.lst (acc ++ [.ref s.heap.objs.size])) b = some o := fun b o nb e => sU b o nb (sT b o e)
      have sql : ∀ {l : Addr} {zs : List V}, l ≠ S → SqL X.K H l zs → SqL X.K (upd H1 S (.lst (acc ++ [.ref s.heap.objs.size]))) l zs := fun nl q => q.elim (fun r => .inl (r.elim (fun e => .inl (sAll _ _ nl e)) fun ⟨o, e⟩ => .inr ⟨o, sAll _ _ nl e⟩)) .inr
      refine ih (i + 1) _ _ (acc ++ [.ref s.heap.objs.size]) (by omega) (by omega) I2 (fun b hb => ?_) (sql n1 hx) (sql n2 hy) (st'.at_ (S := S) (fun b o nb q => (Heap.get?_update_other _ _ (Ne.symm nb)).trans q) nS fun T f hz' o hT' => ?_) upd_same n1 n2 (by rw [List.length_append, ha]; rfl) (fun j v hj => ?_) fun s' H' acc' I' so hS' hl' hz' => hR s' H' acc' I' (fun b o nb e => so b o nb (sAll b o nb e)) hS' hl' hz'
      · obtain ⟨f0, fr⟩ := hf1 b hb
        exact ⟨by rw [upd_ne (nS b hb)]; exact f0, fr⟩
      · by_cases q : T = S
        · rw [q]
          exact ⟨_, PySem.IsL.update e _⟩
        · exact ⟨o, (Heap.get?_update_other _ _ (Ne.symm q)).trans hT'⟩
      · by_cases q : j < acc.length
        · rw [List.getElem?_append_left q] at hj
          obtain ⟨T, x, y, e1, e2, e3, e4⟩ := hz j v hj
          have nTS : T ≠ S := fun z => by
            rw [z, hS] at e4
            cases e4
          exact ⟨T, x, y, e1, e2, e3, sAll _ _ nTS e4⟩
        · have ej : j = acc.length := by
            have q2 := (List.getElem?_eq_some_iff.mp hj).1
            rw [List.length_append, List.length_singleton] at q2
            omega
          rw [ej, List.getElem?_append_right (Nat.le_refl _), Nat.sub_self] at hj
          cases hj
          rw [ej, ha]
          exact ⟨_, xs[i], ys[i], rfl, List.getElem?_eq_getElem l1', List.getElem?_eq_getElem l2', sU _ _ nT hT1⟩
    refine codeAny_builtin F.entry_extend_loop ?_
    rw [Around.under_plainId F.plain_extend_loop _]
    show wpAny _ A.in1 (pyNext (.ref z) >>= _) _ _ s
    have lti1 : i1 < s.heap.objs.size := by obtain ⟨_, e, _⟩ := h1; exact Heap.lt_size e
    have lti2 : i2 < s.heap.objs.size := by obtain ⟨_, e, _⟩ := h2; exact Heap.lt_size e
    rcases hzs with ⟨hz0, a, b, hTO⟩ | ⟨T, f, oT, hz0, hT, ⟨oO, hO⟩, r1, r3, r4⟩
    · have hlt' : ∀ b ∈ [z, TI, TO, i1, i2], b < s.heap.objs.size := fun b hb => by
        have e' : b = z ∨ b = TI ∨ b = TO ∨ b = i1 ∨ b = i2 := by simpa using hb
        rcases e' with q | q | q | q | q
        · rw [q]; exact Heap.lt_size hz0
        · rw [q]; exact Heap.lt_size hTI
        · rw [q]; exact Heap.lt_size hTO
        · rw [q]; exact lti1
        · rw [q]; exact lti2
      have nw : ∀ b ∈ [z, TI, TO, i1, i2], s.heap.objs.size ≠ b := fun b hb => Nat.ne_of_gt (hlt' b hb)
      refine wpAny_bind (wpAny_pyNext_zip_item D hz0 hTI hTO h1 h2 p.isList p2.isList hu' hu2' fun h' a1 a2 a3 a4 a5 a6 hk' => ?_)
      exact go h' (fun c o hb q => hk' c o (fun q' => hb (by simp [q'])) (fun q' => hb (by simp [q'])) (fun q' => hb (by simp [q'])) (fun q' => hb (by simp [q'])) q) a5 a6
        ⟨hk' _ _ D.TIz D.TITO D.TIi1 D.TIi2 hTI, a3, a4, .inr ⟨s.heap.objs.size, false, _, a1, a5, ⟨_, a2⟩, nw _ (by simp), nw _ (by simp), nw _ (by simp)⟩⟩ hlt'
    · have hTO : TO < s.heap.objs.size := Heap.lt_size hO
      have hlt' : ∀ b ∈ [z, TI, TO, i1, i2], b < s.heap.objs.size := fun b hb => by
        have e' : b = z ∨ b = TI ∨ b = TO ∨ b = i1 ∨ b = i2 := by simpa using hb
        rcases e' with q | q | q | q | q
        · rw [q]; exact Heap.lt_size hz0
        · rw [q]; exact Heap.lt_size hTI
        · rw [q]; exact hTO
        · rw [q]; exact lti1
        · rw [q]; exact lti2
      refine wpAny_bind (wpAny_pyNext_zip_item_held D hz0 hT hTI h1 h2 p.isList p2.isList hu' hu2' fun h' a1 a3 a4 a5 a6 hk' => ?_)
      exact go h' (fun c o hb q => hk' c o (fun q' => hb (by simp [q'])) (fun q' => hb (by simp [q'])) (fun q' => hb (by simp [q'])) q) a5 a6
        ⟨hk' _ _ D.TIz D.TIi1 D.TIi2 hTI, a3, a4, .inr ⟨T, true, oT, a1, hk' _ _ r1 r3 r4 hT, ⟨oO, hk' _ _ D.TOz D.TOi1 D.TOi2 hO⟩, r1, r3, r4⟩⟩ hlt'
theorem zip_init {z TI TO i1 i2 l1 l2 S : Addr} (D : ZipApart z TI TO i1 i2 l1 l2) {xs ys : List V} (A : Around) (hA : A.in1.handled = none) {R : Result → Shared → Prop} (hsz : xs.length ≤ 1000) {s : Shared} {H : Hp} (I : Inv X pins σ H s) (eS : S = s.heap.objs.size) (hf : ∀ b ∈ [z, TI, TO, i1, i2], FpOk X pins H b)
    (hx : SqL X.K H l1 xs) (hy : SqL X.K H l2 ys) (hz : IsZip s.heap z TI TO .none) (st : ZipSt z TI TO i1 i2 l1 l2 s.heap 0) (hlt : ∀ b ∈ [z, TI, TO, i1, i2], b < s.heap.objs.size) (hl1 : l1 < s.heap.objs.size) (hl2 : l2 < s.heap.objs.size)
    (hR : ∀ s' H' acc', Inv X pins σ H' s' → (∀ b o, b ≠ S → H b = some o → H' b = some o) → H' S = some (.lst acc') → acc'.length = min xs.length ys.length → ZipAt H' acc' xs ys → R (.ok (.ret .none)) s') :
    wpAny (model X.prog X.w) A.in1 (Builtin.«list.__init__» ⟨[.ref S, .ref z], []⟩)
      (fun fin s' => match fin with | .done f => R (.ok f) s' | .again c' => c'.quiet = true ∧ codeAny (model X.prog X.w) A c' R s') (fun e s' => R (.error e) s') { s with heap := s.heap.push { cls := .type "list", data := .seq #[] } } := by
  have hS : (s.heap.push { cls := .type "list", data := .seq #[] }).get? S = some { cls := .type "list", data := .seq #[] } := by rw [eS]; exact Heap.get?_push_size _ rfl
  have nSz : ∀ b ∈ [z, TI, TO, i1, i2], b ≠ S := fun b hb => by rw [eS]; exact Nat.ne_of_lt (hlt b hb)
  show wpAny _ A.in1 (do let old ← Builtin.List.listItems (.ref S); Builtin.List.listUpdate (.ref S) (fun _ => #[]); letGo old.toList.reverse; Builtin.List.listExtendWith (.ref S) (.ref z) .none) _ _ _
  refine wpAny_bind ?_
  unfold Builtin.List.listItems
  refine wpAny_bind (wpAny_seqItems hS rfl (wpAny_pure ?_))
  show wpAny _ A.in1 (updateSeq S (fun _ => #[]) >>= fun _ => letGo (#[] : Array Value).toList.reverse >>= fun _ => Builtin.List.listExtendWith (.ref S) (.ref z) .none) _ _ _
  refine wpAny_bind (wpAny_updateSeq hS rfl ?_)
  have hS₂ := Heap.get?_update_self (Obj.mapSeq (fun _ => (#[] : Array Value))) hS rfl
  refine wpAny_bind (wpAny_letGo ?_)
  generalize hh2 : (s.heap.push { cls := .type "list", data := .seq #[] }).update S (Obj.mapSeq (fun _ => (#[] : Array Value))) = h2 at hS₂
  have k2 : ∀ b o, s.heap.get? b = some o → h2.get? b = some o := fun b o e => by
    rw [← hh2]
    exact (Heap.get?_update_other _ _ (by rw [eS]; exact Nat.ne_of_gt (Heap.lt_size e))).trans (Heap.get?_push_of_some _ e)
  have hT : Shared.TypeIs { s with heap := h2 } (.ref z) "zip" := ⟨_, k2 _ _ hz, rfl⟩
  have hSI : S ≠ z := (nSz z (by simp)).symm
  unfold Builtin.List.listExtendWith
  refine wpAny_bind (wpAny_typeOf hT ?_)
  have g1 : Builtin.List.listSameRef (.ref S) (.ref z) = false := by simp [Builtin.List.listSameRef, hSI]
  have g2 : (Value.type "zip" == Value.type "list") = false := by decide
  have g3 : (Value.type "zip" == Value.type "tuple") = false := by decide
  simp only [g1, g2, g3, Bool.or_false, Bool.false_eq_true, if_false]
  refine wpAny_bind (wpAny_pyIter_zip (k2 _ _ hz) ?_)
  refine wpAny_bind (wpAny_holding ?_)
  unfold Builtin.List.listLengthHint
  refine wpAny_bind (wpAny_specialOf hT PySem.F.toy_zip_no_len ?_)
  show wpAny _ A.in1 (specialOf (Value.ref z) (Str.ofString "__length_hint__") >>= _) _ _ _
  refine wpAny_bind (wpAny_specialOf hT PySem.F.toy_zip_no_hint ?_)
  refine wpAny_pure ?_
  show wpAny _ A.in1 (rule "list.extend.makes-room" >>= fun _ => Builtin.List.listTouch (.ref S) >>= fun _ =>
    again (.builtin "list.extend.loop" ⟨[.ref S, .ref z, .none], []⟩)) _ _ _
  refine wpAny_bind (wpAny_rule ?_)
  refine wpAny_bind ?_
  show wpAny _ A.in1 (updateSeq S (·.push .none) >>= fun _ => updateSeq S (·.pop)) _ _ _
  refine wpAny_bind (wpAny_updateSeq hS₂ rfl ?_)
  have hS₃ := Heap.get?_update_self (Obj.mapSeq (·.push Value.none)) hS₂ rfl
  refine wpAny_updateSeq (hz := by seq_fits) hS₃ rfl ?_
  have hS₄ := Heap.get?_update_self (Obj.mapSeq (·.pop)) hS₃ rfl
  generalize hh4 : (h2.update S (Obj.mapSeq (·.push Value.none))).update S (Obj.mapSeq (·.pop)) = h4 at hS₄
  have k4 : ∀ b o, s.heap.get? b = some o → h4.get? b = some o := fun b o e => by
    have nb : S ≠ b := by rw [eS]; exact Nat.ne_of_gt (Heap.lt_size e)
    rw [← hh4]
    exact (Heap.get?_update_other _ _ nb).trans ((Heap.get?_update_other _ _ nb).trans (k2 b o e))
  have I4 : Inv X pins σ (upd H S (.lst [])) { s with heap := h4 } := by
    exact I.laid (t' := s.toks) k4 (by rw [eS]; exact Nat.le_refl _) ⟨Nat.zero_le _, [], _, .nil, hS₄⟩
  have hnS : H S = none := I.hok.fresh (by rw [eS]; exact Nat.le_refl _)
  have sS : ∀ b o, H b = some o → upd H S (.lst []) b = some o := fun b o e => by
    rw [upd_ne (ne_of_none e hnS)]
    exact e
  have sql : ∀ {l : Addr} {zs : List V}, SqL X.K H l zs → SqL X.K (upd H S (.lst [])) l zs := fun q => q.elim (fun r => .inl (r.elim (fun e => .inl (sS _ _ e)) fun ⟨o, e⟩ => .inr ⟨o, sS _ _ e⟩)) .inr
  refine wpAny_pure ⟨plainId_quiet F.plain_extend_loop _, zip_loop D A hA .none hsz _ 0 _ _ [] rfl (Nat.zero_le _) I4 (fun b hb => ?_) (sql hx) (sql hy) (st.at_ (S := S) (fun b o _ e => k4 b o e) nSz fun T f hz' o e => ⟨o, k4 _ _ e⟩) upd_same (by rw [eS]; exact Nat.ne_of_lt hl1) (by rw [eS]; exact Nat.ne_of_lt hl2) rfl (fun j v e => by simp at e) fun s' H' acc' I' so hS' hl' hz' => hR s' H' acc' I' (fun b o nb e => so b o nb (sS b o e)) hS' hl' hz'⟩
  obtain ⟨f0, fr⟩ := hf b hb
  exact ⟨by rw [upd_ne (nSz b hb)]; exact f0, fr⟩
end
def tLZip (K : PySem.W.Frag) (ta : TA) : TE := fun σ H Q => ta σ H fun vs H1 => ∃ (a b : Addr) (xs ys : List V), vs = [.ref a, .ref b] ∧ SqL K H1 a xs ∧ SqL K H1 b ys ∧ xs.length ≤ 1000 ∧
  ∀ (p : Addr) (H' : Hp) (acc : List V), H1 p = none → Same H1 H' → H' p = some (.lst acc) → acc.length = min xs.length ys.length → ZipAt H' acc xs ys → Q (.ref p) H'
section
variable {X : Cx}
/-- list(zip(e, e2)) -/
theorem pe_listzip {e e2 : Expr} {ta : TA} {p p2 q pos : Pos} (hc : X.calm = true) (hg : Gl X "list") (hm : X.mg "list" = none) (hg2 : Gl X "zip") (hm2 : X.mg "zip" = none) (ha : PA X [e, e2] ta)
    (na : starEach [Expr.Call (.Name "zip" p2) [e, e2] [] q] X.env = (false, eval (.Call (.Name "zip" p2) [e, e2] [] q) X.env) :: starEach [] X.env := by rfl)
    (hs : starEach [e, e2] X.env = (false, eval e X.env) :: starEach [e2] X.env := by rfl) (hpl : (backTo q (starEach [e2] X.env)).any (·.1) = false := by rfl) :
    PE X (.Call (.Name "list" p) [.Call (.Name "zip" p2) [e, e2] [] q] [] pos) (tLZip X.K ta) := by
  refine ⟨fun pins s σ H Q I h => ?_⟩
  refine Call_ (ld_blt I hg hm (show bootBuiltins "list" = some (.type "list") by decide +kernel) ?_)
  refine PyProof.Rows.callWith_type1 (PyProof.Rows.args_cons ?_ na) na rfl
  refine Call_ (ld_blt I hg2 hm2 PyProof.Rows.boot_zip (PyProof.Rows.callWith_type1 (thn (ha.run q pins s σ H _ I h) fun us s1 ⟨vs, H1, I1, r1, q1⟩ => ?_) hs hpl))
  obtain ⟨a, b, xs, ys, ex, hqx, hqy, hsz, qq⟩ := q1
  subst ex
  cases r1 with
  | cons r rr =>
    cases rr with
    | cons r' rr =>
      cases rr
      cases r
      cases r'
      obtain ⟨its, rv, p1, _⟩ := I1.list hqx
      obtain ⟨its2, rv2, p2', _⟩ := I1.list hqy
      have la : a < s1.heap.objs.size := p1.lt
      have lb : b < s1.heap.objs.size := p2'.lt
      refine call_zip_2 p1.isList p2'.isList fun h' hz hTI hTO h1 h2 hsz' hk => PyProof.Rows.args_nil ?_
      have I2 : Inv X pins σ H1 { s1 with heap := h' } := I1.kept (t' := s1.toks) hk
      have mem : ∀ c ∈ [s1.heap.objs.size + 4, s1.heap.objs.size + 2, s1.heap.objs.size + 3, s1.heap.objs.size, s1.heap.objs.size + 1], s1.heap.objs.size ≤ c ∧ c < h'.objs.size := fun c hcm => by
        have e' : c = s1.heap.objs.size + 4 ∨ c = s1.heap.objs.size + 2 ∨ c = s1.heap.objs.size + 3 ∨ c = s1.heap.objs.size ∨ c = s1.heap.objs.size + 1 := by simpa using hcm
        rw [hsz']
        rcases e' with z | z | z | z | z
        · rw [z]; exact ⟨Nat.le_add_right _ _, Nat.add_lt_add_left (by decide) _⟩
        · rw [z]; exact ⟨Nat.le_add_right _ _, Nat.add_lt_add_left (by decide) _⟩
        · rw [z]; exact ⟨Nat.le_add_right _ _, Nat.add_lt_add_left (by decide) _⟩
        · rw [z]; exact ⟨Nat.le_refl _, Nat.lt_add_of_pos_right (by decide)⟩
        · rw [z]; exact ⟨Nat.le_add_right _ _, Nat.add_lt_add_left (by decide) _⟩
      have hgr : s1.heap.objs.size ≤ h'.objs.size := by rw [hsz']; exact Nat.le_add_right _ _
      refine callType_codes (Q₁ := fun obj s₁ => obj = .ref h'.objs.size ∧ s₁ = { s1 with heap := h'.push { cls := .type "list", data := .seq #[] } }) PySem.F.called_list (PySem.F.typeCall_list_1 _) PySem.F.entry_list_init
        (code_list_new _ ⟨rfl, rfl⟩) fun obj s₁ h₁ => ?_
      obtain ⟨rfl, rfl⟩ := h₁
      have hS : (h'.push { cls := .type "list", data := .seq #[] }).get? h'.objs.size = some { cls := .type "list", data := .seq #[] } := Heap.get?_push_size _ rfl
      refine ⟨⟨_, hS, rfl⟩, PySem.F.args_list_init_2 _ _, ?_⟩
      have hn : H1 h'.objs.size = none := I2.hok.fresh (Nat.le_refl _)
      refine zip_init (s := { s1 with heap := h' }) (R := wants (fun r s₂ => r = Value.none ∧ EP X pins σ Q (Value.ref h'.objs.size) s₂) X.xe) (PySem.W.ktu_apart s1.heap.objs.size a b la lb) X.A.in1 (I2.ok.hd hc) hsz I2 rfl (fun c hcm => I1.fpOk (mem c hcm).1 (I1.hok.fresh (mem c hcm).1)) hqx hqy hz ⟨hTI, h1, h2, .inl ⟨hz, _, _, hTO⟩⟩ (fun c hcm => (mem c hcm).2) (Nat.lt_of_lt_of_le la hgr) (Nat.lt_of_lt_of_le lb hgr) fun s' H' acc' I' so hS' hl' hz' => ?_
      exact ⟨rfl, .ref h'.objs.size, H', I', rfl, qq _ _ _ hn (fun b o e => so b o (ne_of_none e hn) e) hS' hl' hz'⟩
end
end L2
set_option Elab.async false
set_option linter.all false
set_option maxRecDepth 100000
set_option maxHeartbeats 4000000
namespace Toy
open PySem PySem.Spec PyProof.Rows L2
/-! ### the order of legs -/
def leR (a b : Str × Str) : Prop := a.1.cps.toList < b.1.cps.toList ∨ (a.1.cps.toList = b.1.cps.toList ∧ a.2.cps.toList ≤ b.2.cps.toList)
def rowLe (a b : Str × Str) : Bool := PySem.W.dataLe false id (rowT a) (rowT b)
theorem strLt (x y : Str) : PySem.W.dataLt (.str x) (.str y) = decide (x.cps.toList < y.cps.toList) := by
  have q := congrFun (congrFun (PySem.W.dataLe_str (fun b : Str => b)) y) x
  have q2 : (!PySem.W.dataLt (.str x) (.str y)) = decide (y.cps.toList ≤ x.cps.toList) := q
  by_cases h : x.cps.toList < y.cps.toList
  · rw [decide_eq_true h]
    rw [decide_eq_false (fun z => (List.not_lt.mpr z) h)] at q2
    simpa using q2
  · rw [decide_eq_false h]
    rw [decide_eq_true (List.not_lt.mp h)] at q2
    simpa using q2
theorem eqvS (x y : Str) : PyData.eqv (.str x) (.str y) = decide (x = y) := by
  show (x == y) = decide (x = y)
  by_cases h : x = y
  · rw [h, decide_eq_true rfl]
    simp
  · rw [decide_eq_false h]
    simpa using h
theorem rowLe_iff (a b : Str × Str) : rowLe a b = true ↔ leR a b := by
  have e : PySem.W.dataLt (rowT b) (rowT a) = if PyData.eqv (.str b.1) (.str a.1) = true then (if PyData.eqv (.str b.2) (.str a.2) = true then false else PySem.W.dataLt (.str b.2) (.str a.2)) else PySem.W.dataLt (.str b.1) (.str a.1) :=
    PySem.W.dataLt_pair (by simp [PySem.W.alike]) (by simp [PySem.W.alike])
  have e0 : rowLe a b = !PySem.W.dataLt (rowT b) (rowT a) := rfl
  rw [e0, e, eqvS, eqvS, strLt, strLt]
  unfold leR
  by_cases h1 : b.1 = a.1
  · rw [if_pos (decide_eq_true h1)]
    by_cases h2 : b.2 = a.2
    · rw [if_pos (decide_eq_true h2), h1, h2]
      exact ⟨fun _ => .inr ⟨rfl, List.le_refl _⟩, fun _ => rfl⟩
    · rw [if_neg (by simpa using h2)]
      by_cases h3 : b.2.cps.toList < a.2.cps.toList
      · rw [decide_eq_true h3, h1]
        refine ⟨fun z => by simp at z, fun z => ?_⟩
        rcases z with z | ⟨_, z⟩
        · exact absurd z (List.lt_irrefl _)
        · exact absurd h3 (List.not_lt.mpr z)
      · rw [decide_eq_false h3, h1]
        exact ⟨fun _ => .inr ⟨rfl, List.not_lt.mp h3⟩, fun _ => rfl⟩
  · rw [if_neg (by simpa using h1)]
    by_cases h3 : b.1.cps.toList < a.1.cps.toList
    · rw [decide_eq_true h3]
      refine ⟨fun z => by simp at z, fun z => ?_⟩
      rcases z with z | ⟨z, _⟩
      · exact absurd z (List.lt_asymm h3)
      · rw [z] at h3
        exact absurd h3 (List.lt_irrefl _)
    · rw [decide_eq_false h3]
      refine ⟨fun _ => ?_, fun _ => rfl⟩
      by_cases h4 : a.1.cps.toList < b.1.cps.toList
      · exact .inl h4
      · exact absurd (str_ext (List.le_antisymm (List.not_lt.mp h4) (List.not_lt.mp h3))) h1
theorem leR_trans {a b c : Str × Str} (h1 : leR a b) (h2 : leR b c) : leR a c := by
  unfold leR at *
  rcases h1 with h1 | ⟨h1, g1⟩
  · rcases h2 with h2 | ⟨h2, g2⟩
    · exact .inl (List.lt_trans h1 h2)
    · rw [h2] at h1
      exact .inl h1
  · rcases h2 with h2 | ⟨h2, g2⟩
    · rw [← h1] at h2
      exact .inl h2
    · exact .inr ⟨h1.trans h2, List.le_trans g1 g2⟩
theorem leR_total (a b : Str × Str) : leR a b ∨ leR b a := by
  unfold leR
  by_cases h1 : a.1.cps.toList < b.1.cps.toList
  · exact .inl (.inl h1)
  · by_cases h2 : b.1.cps.toList < a.1.cps.toList
    · exact .inr (.inl h2)
    · have e := List.le_antisymm (List.not_lt.mp h2) (List.not_lt.mp h1)
      rcases List.le_total a.2.cps.toList b.2.cps.toList with h | h
      · exact .inl (.inr ⟨e, h⟩)
      · exact .inr (.inr ⟨e.symm, h⟩)
def sortR (rs : Rows2) : Rows2 := rs.mergeSort rowLe
theorem sortD_R (rs : Rows2) : sortD (rs.map rowT) = (sortR rs).map rowT := by
  unfold sortD sortR
  exact (List.map_mergeSort (f := rowT) fun a _ b _ => rfl).symm
theorem sortR_pw (rs : Rows2) : (sortR rs).Pairwise leR := by
  have q := List.pairwise_mergeSort (le := rowLe) (fun a b c h1 h2 => (rowLe_iff a c).mpr (leR_trans ((rowLe_iff a b).mp h1) ((rowLe_iff b c).mp h2))) (fun a b => by
    rcases leR_total a b with h | h
    · rw [(rowLe_iff a b).mpr h]
      rfl
    · rw [(rowLe_iff b a).mpr h]
      exact Bool.or_true _) rs
  exact q.imp fun h => (rowLe_iff _ _).mp h
theorem sortR_perm (rs : Rows2) : (sortR rs).Perm rs := List.mergeSort_perm _ _
theorem sortR_id {rs : Rows2} (h : rs.Pairwise leR) : sortR rs = rs := by
  unfold sortR
  exact List.mergeSort_of_pairwise (h.imp fun q => (rowLe_iff _ _).mpr q)
def zzS : Str := "zz"
/-- legs as the laws draw them -/
structure LegsG (rows lg : Rows2) : Prop where
  l6 : lg.length ≤ 6
  nd : (lg.map (·.1)).Nodup
  nm : ∀ g ∈ lg, nameS g.1 = true
  so : ∀ g ∈ lg, g.2 ∈ rows.map (·.1)
  pw : lg.Pairwise leR
theorem LegsG.nil (rows : Rows2) : LegsG rows [] := ⟨Nat.zero_le _, List.nodup_nil, fun _ h => (nomatch h), fun _ h => (nomatch h), List.Pairwise.nil⟩
theorem LegsG.tail {rows lg : Rows2} (h : LegsG rows lg) : LegsG rows lg.tail := by
  cases lg with
  | nil => exact h
  | cons g lg =>
    refine ⟨?_, ?_, fun x hx => h.nm x (List.mem_cons_of_mem _ hx), fun x hx => h.so x (List.mem_cons_of_mem _ hx), ?_⟩
    · have := h.l6
      rw [List.length_cons] at this
      show lg.length ≤ 6
      omega
    · have := h.nd
      rw [List.map_cons, List.nodup_cons] at this
      exact this.2
    · exact (List.pairwise_cons.mp h.pw).2
theorem LegsG.sorted {rows lg : Rows2} (l6 : lg.length ≤ 6) (nd : (lg.map (·.1)).Nodup) (nm : ∀ g ∈ lg, nameS g.1 = true) (so : ∀ g ∈ lg, g.2 ∈ rows.map (·.1)) : LegsG rows (sortR lg) := by
  have p := sortR_perm lg
  exact ⟨by rw [p.length_eq]; exact l6, (p.map (·.1)).nodup_iff.mpr nd, fun g hg => nm g (p.mem_iff.mp hg), fun g hg => so g (p.mem_iff.mp hg), sortR_pw lg⟩
theorem legs_ok {rows lg : Rows2} (h : LegsG rows lg) (rn : ∀ x ∈ rows.map (·.1), nameS x = true) : legsD (rows.map (·.1)) (.list (lg.map rowT)) = true := by
  show (decide ((lg.map rowT).length ≤ 6) && ((lg.map rowT).all (legD (rows.map (·.1))) && (PyData.eqv (.list (lg.map rowT)) (.list (sortD (lg.map rowT))) && decide ((lg.map rowT).map name0).Nodup))) = true
  rw [sortD_R, sortR_id h.pw, List.length_map, decide_eq_true h.l6]
  have e1 : (lg.map rowT).all (legD (rows.map (·.1))) = true := List.all_eq_true.mpr fun d hd => by
    obtain ⟨g, hg, rfl⟩ := List.mem_map.mp hd
    show (nameS g.1 && (nameS g.2 && decide (g.2 ∈ rows.map (·.1)))) = true
    rw [h.nm g hg, rn _ (h.so g hg), decide_eq_true (h.so g hg)]
    rfl
  have e2 : (lg.map rowT).map name0 = lg.map (·.1) := by
    rw [List.map_map]
    rfl
  have c : PyData.canLayAll0 (lg.map rowT) = true := by
    have key : ∀ l : Rows2, (∀ g ∈ l, nameS g.1 = true ∧ nameS g.2 = true) → PyData.canLayAll0 (l.map rowT) = true := by
      intro l
      induction l with
      | nil => exact fun _ => rfl
      | cons g l ih =>
        intro hl
        have q := hl g List.mem_cons_self
        show ((PyData.strOk g.1 && (PyData.strOk g.2 && true)) && PyData.canLayAll0 (l.map rowT)) = true
        rw [ih fun x hx => hl x (List.mem_cons_of_mem _ hx), (okS_name q.1).2, (okS_name q.2).2]
        rfl
    exact key lg fun g hg => ⟨h.nm g hg, rn _ (h.so g hg)⟩
  have e3 : PyData.eqv (.list (lg.map rowT)) (.list (lg.map rowT)) = true := PySem.SeqAt.eqv_refl _ c
  rw [e1, e2, e3, decide_eq_true h.nd]
  rfl
theorem low_rowT (g : Str × Str) : noDict (rowT g) = true ∧ PyData.depth (rowT g) ≤ 20 := ⟨(low_row g).1, Nat.le_trans (low_row g).2 (by decide)⟩
theorem cut_any (cs : List Str) (hi : Option Int) : ∃ k, cutV (cs.map V.str) none hi = (cs.take k).map V.str := by
  unfold cutV
  rw [HT.sIx_none]
  exact ⟨HT.sIx (cs.map V.str).length (cs.map V.str).length hi - 0, by rw [List.drop_zero, List.map_take]⟩
theorem dt_zip {H : Hp} : ∀ {acc : List V} {xs ys : List Str}, ZipAt H acc (xs.map V.str) (ys.map V.str) → acc.length = min xs.length ys.length → (∀ x ∈ xs, nameS x = true) → (∀ y ∈ ys, nameS y = true) → DtAll H acc ((xs.zip ys).map rowT)
  | [], [], _, _, _, _, _ => .nil
  | [], _ :: _, [], _, _, _, _ => .nil
  | [], x :: xs, y :: ys, _, h, _, _ => by
    rw [List.length_cons, List.length_cons, List.length_nil] at h
    omega
  | v :: acc, [], ys, _, h, _, _ => by
    rw [List.length_cons, List.length_nil] at h
    omega
  | v :: acc, x :: xs, [], _, h, _, _ => by
    rw [List.length_cons, List.length_nil] at h
    omega
  | v :: acc, x :: xs, y :: ys, z, h, hx, hy => by
    obtain ⟨T, a, b, e1, e2, e3, e4⟩ := z 0 v rfl
    have e2' : V.str x = a := Option.some.inj e2
    have e3' : V.str y = b := Option.some.inj e3
    subst e1 e2' e3'
    refine .cons (dt_row (hx x List.mem_cons_self) (hy y List.mem_cons_self) e4) (dt_zip (xs := xs) (ys := ys) (fun j w hj => z (j + 1) w hj) ?_ (fun a ha => hx a (List.mem_cons_of_mem _ ha)) fun a ha => hy a (List.mem_cons_of_mem _ ha))
    rw [List.length_cons, List.length_cons, List.length_cons] at h
    omega
end Toy
set_option Elab.async false
set_option linter.all false
set_option maxRecDepth 100000
set_option maxHeartbeats 4000000
namespace Toy
open PySem PySem.Spec PyProof.Rows L2
theorem val_mem : ∀ {rows : Rows2} {x y : Str}, valV (rows.map kvOf) (Sum.inr x) = some (.str y) → (x, y) ∈ rows
  | [], _, _, h => nomatch h
  | q :: rows, x, y, h => by
    rw [mutual_cons] at h
    by_cases e : q.1 = x
    · rw [if_pos e] at h
      have e2 : q.2 = y := V.str.inj (Option.some.inj h)
      rw [← e, ← e2]
      exact List.mem_cons_self
    · rw [if_neg e] at h
      exact List.mem_cons_of_mem _ (val_mem h)
theorem mut_of {rows : Rows2} (g : GoodS rows) : Mut rows := by
  obtain ⟨_, _, _, nd, m⟩ := good_rows g
  refine ⟨nd, fun r hr => ?_⟩
  unfold mutualB at m
  exact val_mem (of_decide_eq_true (List.all_eq_true.mp m r hr))
theorem sortsE_mem {keys : List Str} {rows : Rows2} {ks : List KRow} {cs : List Str} {lg : Rows2} (gk : GoodK keys ks) (hc : ∀ x ∈ cs, x ∈ ks.map (·.1)) (hl : ∀ g ∈ lg, g.2 ∈ keys) : ∀ x ∈ sortsE ks cs lg, x ∈ keys := by
  intro x hx
  unfold sortsE at hx
  rcases List.mem_append.mp hx with h | h
  · obtain ⟨c, hcm, h⟩ := List.mem_flatMap.mp h
    obtain ⟨k, hk, rfl⟩ := List.mem_map.mp (hc c hcm)
    rw [kEnds_of gk.nd hk] at h
    exact ((gk.en k hk).2.2.1 x h).2
  · obtain ⟨g, hg, rfl⟩ := List.mem_map.mp h
    exact hl g hg
theorem seq_rest {t u : TS} {D : Ends} {σ : L2.St} {H : Hp} (Rk : L2.St → Hp → Prop) (h : (∀ σ' H', Rk σ' H' → u D σ' H') → t { D with nx := u D } σ H) (k : ∀ σ' H', Rk σ' H' → u D σ' H') : tSeq t u D σ H := h k
theorem cut_tail : ∀ xs : List V, cutV xs (some 1) none = xs.tail
  | [] => rfl
  | x :: xs => cut_from (x :: xs) 1 (by rw [List.length_cons]; omega)
theorem gn_go {i : Nat} {x : V} {σ : L2.St} {H : Hp} {Q : L2.St → Hp → Prop} (h : Q (σ.set i (some x)) H) : gName i x σ H Q := h
theorem low_pairT (cs : List Str) (lg : Rows2) : Low 20 (.tuple [.list (cs.map .str), .list (lg.map rowT)]) := by
  have q1 := depth_all (n := 0) (ds := cs.map PyData.str) fun d hd => by
    obtain ⟨x, _, rfl⟩ := List.mem_map.mp hd
    exact Nat.le_refl _
  have q2 := depth_all (n := 1) (ds := lg.map rowT) fun d hd => by
    obtain ⟨g, _, rfl⟩ := List.mem_map.mp hd
    exact (low_row g).2
  have q := depth_all (n := 5) (ds := [PyData.list (cs.map .str), .list (lg.map rowT)]) fun d hd => by
    have hd2 : d = .list (cs.map .str) ∨ d = .list (lg.map rowT) := by simpa using hd
    rcases hd2 with rfl | rfl
    · show PyData.depthAll _ + 1 ≤ 5
      omega
    · show PyData.depthAll _ + 1 ≤ 5
      omega
  refine ⟨?_, ?_⟩
  · show (noDicts (cs.map .str) && (noDicts (lg.map rowT) && true)) = true
    rw [noDicts_all fun d hd => by obtain ⟨x, _, rfl⟩ := List.mem_map.mp hd; rfl, noDicts_all fun d hd => by obtain ⟨g, _, rfl⟩ := List.mem_map.mp hd; exact (low_row g).1]
    rfl
  · show PyData.depthAll _ + 1 ≤ 20
    omega
end Toy
set_option Elab.async false
set_option linter.all false
set_option maxRecDepth 100000
set_option maxHeartbeats 4000000
namespace Toy
open PySem PySem.Spec PyProof.Rows L2
/-- all ends can be joined, sort by sort -/
def Bal (rows : Rows2) (xs : List Str) : Prop := ∀ r ∈ rows, (r.1 = r.2 → xs.count r.1 % 2 = 0) ∧ (r.1 ≠ r.2 → xs.count r.1 = xs.count r.2)
theorem want_not {xs : List Str} {r : Str × Str} {s : Str} (h : r.2 ≠ s) : (wantR xs r).count s = 0 := by
  unfold wantR
  by_cases c : r.1 = r.2
  · rw [if_pos c, List.count_replicate]
    rw [c]
    simp [h]
  · rw [if_neg c, List.count_replicate]
    simp [h]
theorem want_sum {xs : List Str} {s p : Str} : ∀ l : Rows2, (l.map (·.1)).Nodup → (∀ r ∈ l, r.2 = s → r.1 = p) → ((p, s) ∈ l → (wantL l xs).count s = (wantR xs (p, s)).count s) ∧ ((p, s) ∉ l → (wantL l xs).count s = 0)
  | [], _, _ => ⟨(fun z => nomatch z), fun _ => rfl⟩
  | r :: l, nd, ho => by
    rw [List.map_cons, List.nodup_cons] at nd
    have ih := want_sum (xs := xs) l nd.2 fun q hq => ho q (List.mem_cons_of_mem _ hq)
    have e : (wantL (r :: l) xs).count s = (wantR xs r).count s + (wantL l xs).count s := by
      show (wantR xs r ++ wantL l xs).count s = _
      rw [List.count_append]
    rw [e]
    by_cases c : r.2 = s
    · have er : r = (p, s) := Prod.ext (ho r List.mem_cons_self c) c
      have no : (p, s) ∉ l := fun z => nd.1 (by rw [er]; exact List.mem_map_of_mem (f := fun q : Str × Str => q.1) z)
      rw [ih.2 no, er]
      exact ⟨fun _ => rfl, fun z => absurd List.mem_cons_self z⟩
    · rw [want_not c, Nat.zero_add]
      refine ⟨fun z => ?_, fun z => ih.2 fun y => z (List.mem_cons_of_mem _ y)⟩
      rcases List.mem_cons.mp z with y | y
      · exact absurd (by rw [← y]) c
      · exact ih.1 y
theorem want_count {rows : Rows2} (m : Mut rows) {xs : List Str} {s p : Str} (h : (s, p) ∈ rows) : (wantL rows xs).count s = if p = s then xs.count s % 2 else xs.count p - xs.count s := by
  have q := (want_sum (xs := xs) (s := s) (p := p) rows m.nd fun r hr e => by
    have h2 := m.mt r hr
    rw [e] at h2
    have o := m.one h2 h rfl
    exact congrArg Prod.snd o).1 (m.mt _ h)
  rw [q]
  unfold wantR
  by_cases c : p = s
  · rw [if_pos c, if_pos c]
    show (List.replicate (xs.count p % 2) p).count s = _
    rw [c, List.count_replicate_self]
  · rw [if_neg c, if_neg c]
    show (List.replicate (xs.count p - xs.count s) s).count s = _
    rw [List.count_replicate_self]
theorem bal_want {rows : Rows2} (m : Mut rows) (xs : List Str) : Bal rows (xs ++ wantL rows xs) := by
  intro r hr
  have q1 := want_count m (xs := xs) (s := r.1) (p := r.2) hr
  have q2 := want_count m (xs := xs) (s := r.2) (p := r.1) (m.mt r hr)
  refine ⟨fun e => ?_, fun e => ?_⟩
  · rw [List.count_append, q1, if_pos e.symm]
    omega
  · rw [List.count_append, List.count_append, q1, q2, if_neg fun z => e z.symm, if_neg e]
    omega
theorem Bal.perm {rows : Rows2} {xs ys : List Str} (p : xs.Perm ys) (h : Bal rows xs) : Bal rows ys := fun r hr => by
  have q := h r hr
  rw [p.count_eq, p.count_eq] at q
  exact q
/-- taking a thing and a partner of it away -/
theorem Bal.less {rows : Rows2} (m : Mut rows) {x p : Str} {xs : List Str} (h : (x, p) ∈ rows) (b : Bal rows (x :: p :: xs)) : Bal rows xs := fun r hr => by
  have q := b r hr
  by_cases c1 : r.1 = x
  · have e := m.one hr h c1
    rw [e] at q ⊢
    show (x = p → _) ∧ (x ≠ p → _)
    have q' : (x = p → (x :: p :: xs).count x % 2 = 0) ∧ (x ≠ p → (x :: p :: xs).count x = (x :: p :: xs).count p) := q
    refine ⟨fun z => ?_, fun z => ?_⟩
    · have y := q'.1 z
      rw [← z, List.count_cons_self, List.count_cons_self] at y
      show xs.count x % 2 = 0
      omega
    · have y := q'.2 z
      rw [List.count_cons_self, List.count_cons_of_ne (fun w => z w.symm), List.count_cons_of_ne z, List.count_cons_self] at y
      show xs.count x = xs.count p
      omega
  · by_cases c2 : r.1 = p
    · have e := m.one hr (m.mt _ h) c2
      rw [e] at q ⊢
      have q' : (p = x → (x :: p :: xs).count p % 2 = 0) ∧ (p ≠ x → (x :: p :: xs).count p = (x :: p :: xs).count x) := q
      show (p = x → _) ∧ (p ≠ x → _)
      have z : p ≠ x := fun w => c1 (by rw [c2, w])
      refine ⟨fun w => absurd w z, fun _ => ?_⟩
      have y := q'.2 z
      rw [List.count_cons_self, List.count_cons_of_ne z, List.count_cons_of_ne (fun w => z w.symm), List.count_cons_self] at y
      show xs.count p = xs.count x
      omega
    · have n1 : r.2 ≠ x := fun w => c2 (by
        have o := m.mt _ hr
        rw [w] at o
        exact congrArg Prod.snd (m.one o h rfl))
      have n2 : r.2 ≠ p := fun w => c1 (by
        have o := m.mt _ hr
        rw [w] at o
        exact congrArg Prod.snd (m.one o (m.mt _ h) rfl))
      rw [List.count_cons_of_ne (fun w => c1 w.symm), List.count_cons_of_ne (fun w => c2 w.symm), List.count_cons_of_ne (fun w => n1 w.symm), List.count_cons_of_ne (fun w => n2 w.symm)] at q
      exact q
/-- what is taken has a partner left -/
theorem Bal.partner {rows : Rows2} {x p : Str} {xs : List Str} (h : (x, p) ∈ rows) (b : Bal rows (x :: xs)) : 1 ≤ xs.count p := by
  have q := b _ h
  by_cases c : x = p
  · have y := q.1 c
    have y' : (x :: xs).count x % 2 = 0 := y
    rw [List.count_cons_self] at y'
    rw [← c]
    omega
  · have y := q.2 c
    have y' : (x :: xs).count x = (x :: xs).count p := y
    rw [List.count_cons_self, List.count_cons_of_ne c] at y'
    omega
end Toy
set_option Elab.async false
set_option linter.all false
set_option maxRecDepth 100000
set_option maxHeartbeats 4000000
/-! sorted(t), t a tuple of whole numbers -/
namespace PyProof.Rows
open PySem
section
variable {prog : Program} {w : World} {A : Around} {E : Value → Shared → Prop} {s : Shared}
theorem toy_sortedTI {l : Addr} {vs : List Value} {ns : List Int} {Q : Value → Shared → Prop} (hl : s.heap.IsTuple l vs.toArray) (hI : IntsAre vs ns) (h64 : vs.length < 64)
    (h : ∀ (out : Array Value) (ns' : List Int), IntsAre out.toList ns' → ns'.Perm ns → ns'.Pairwise (· ≤ ·) → Q (.ref (s.heap.objs.size + 1)) { s with heap := sortedAll s.heap vs out }) :
    wpAny (model prog w) A (call (.builtin "sorted") [.ref l]) Q E s := by
  refine Calls.call_function_entry kind_sorted plain_sorted entry_sorted (args_sorted1 _) ?_
  unfold Builtin.«sorted»
  refine wpAny_bind (m := checkCount "sorted" 1 1 _) (wpAny_pure (wpAny_bind (toy_collect hl (wpAny_bind (wpAny_newList ?_)) (by rw [sizeLine_eq]; omega))))
  have hsz : ((s.heap.push (seqObj "list" #[] 0)).update s.heap.objs.size (Obj.mapSeq (· ++ vs.toArray))).objs.size = s.heap.objs.size + 1 := by
    rw [Heap.size_update, size_push']
  have hoL : (((s.heap.push (seqObj "list" #[] 0)).update s.heap.objs.size (Obj.mapSeq (· ++ vs.toArray))).push (seqObj "list" vs.toArray 0)).get? (s.heap.objs.size + 1) = some (seqObj "list" vs.toArray 0) := by
    rw [← hsz]
    exact Heap.get?_push_size _ rfl
  show wpAny _ _ _ _ _ { s with heap := ((s.heap.push (seqObj "list" #[] 0)).update s.heap.objs.size (Obj.mapSeq (· ++ vs.toArray))).push (seqObj "list" vs.toArray 0) }
  rw [hsz]
  refine wpAny_bind (wpAny_holding (wpAny_call_entry slot_list_sort ⟨_, hoL, rfl⟩ entry_list_sort (list_sort_tree hoL hI h64 fun out ns' a1 a2 a3 => ⟨_, rfl, ?_⟩) (args_list_sort _)))
  exact wpAny_pure ⟨_, rfl, h out ns' a1 a2 a3⟩
end
end PyProof.Rows
namespace L2
open PySem PySem.Spec PyProof.Rows Toy
section
variable {X : Cx}
def rSortTI (K : PySem.W.Frag) : List V → Hp → VK → Prop := fun vs H Q => ∃ (a : Addr) (ns : List Int), vs = [V.ref a] ∧ SqT K H a (ns.map V.int) ∧ ns.length < 64 ∧
  ∀ (ns' : List Int) (p : Addr), ns'.Perm ns → ns'.Pairwise (· ≤ ·) → H p = none → Q (.ref p) (upd H p (.lst (ns'.map V.int)))
theorem cr_sortTI : CallR X (.builtin "sorted") (rSortTI X.K) := by
  intro pins s σ H xs us Q I r h
  obtain ⟨a, ns, rfl, hs, h64, q⟩ := h
  obtain ⟨its, rv, hl, _⟩ := I.tuple hs
  rw [Vals.ref1 r]
  have hi := rv.ints
  refine toy_sortedTI hl hi (by rw [hi.length]; exact h64) fun out ns' h1 h2 h3 => ?_
  obtain ⟨ep, he'⟩ := PyProof.Rows.sortedAll_at s.heap its out
  have hlen : (ns'.map V.int).length ≤ sizeLine := by rw [List.length_map, h2.length_eq]; exact small64 h64
  exact ⟨.ref _, upd H (s.heap.objs.size + 1) (.lst (ns'.map V.int)), I.laid (t' := s.toks) (fun _ _ => PyProof.Rows.sortedAll_old) (Nat.le_succ _) ⟨hlen, out.toList, ep, vals_of_ints h1, he'⟩, rfl, q ns' _ h2 h3 (I.hok.fresh (Nat.le_succ _))⟩
end
end L2
set_option Elab.async false
set_option linter.all false
set_option maxRecDepth 100000
set_option maxHeartbeats 4000000
namespace Toy
open PySem PySem.Spec PyProof.Rows L2
abbrev End := Nat × Str
theorem shape_of {H : Hp} {v : V} {d : PyData} (h : Dt H v d) (l : Low 20 d) : SeqAt.shaped d = true := by
  have c := h.can l.nd
  unfold SeqAt.shaped
  rw [c, decide_eq_true (by have := l.dep; omega)]
  rfl
theorem low_rows (rs : Rows2) : Low 20 (.list (rs.map rowT)) := ⟨noDicts_all fun d hd => by obtain ⟨g, _, rfl⟩ := List.mem_map.mp hd; exact (low_row g).1, by
  have q := depth_all (n := 1) (ds := rs.map rowT) fun d hd => by
    obtain ⟨g, _, rfl⟩ := List.mem_map.mp hd
    exact (low_row g).2
  show PyData.depthAll (rs.map rowT) + 1 ≤ 20
  omega⟩
theorem ends_at {H : Hp} {ws : List V} {es : List End} {i : Nat} {e : End} (h : EndsAt H ws es) (he : es[i]? = some e) : ∃ t, ws[i]? = some (.ref t) ∧ TupAt H t [.int (e.1 : Nat), .str e.2] := by
  have l := h.len
  have li : i < ws.length := by
    have := (List.getElem?_eq_some_iff.mp he).1
    omega
  obtain ⟨e', he', t, ev, tq⟩ := paired_at (show Paired (EndP H) ws es from h) (List.getElem?_eq_getElem li)
  rw [he] at he'
  cases he'
  exact ⟨t, by rw [List.getElem?_eq_getElem li, ev], tq⟩
def pairV (p : Nat × Nat) : List V := [.int (p.1 : Nat), .int (p.2 : Nat)]
def pairT (p : Nat × Nat) : PyData := .tuple [.int (p.1 : Nat), .int (p.2 : Nat)]
theorem dt_pairT {H : Hp} {t : Addr} {p : Nat × Nat} (tq : TupAt H t (pairV p)) : Dt H (.ref t) (pairT p) := .tup tq (by show 2 ≤ 1000; decide) (.cons (.int _) (.cons (.int _) .nil))
def PairP (H : Hp) (v : V) (p : Nat × Nat) : Prop := ∃ t, v = .ref t ∧ TupAt H t (pairV p)
def PairsAt (H : Hp) (vs : List V) (ps : List (Nat × Nat)) : Prop := Paired (PairP H) vs ps
theorem PairsAt.same {H H' : Hp} (s : Same H H') {vs : List V} {js : List (Nat × Nat)} (h : PairsAt H vs js) : PairsAt H' vs js := L2.Paired.mapP h fun _ _ ⟨q, e, t⟩ => ⟨q, e, t.same s⟩
theorem PairsAt.len {H : Hp} {vs : List V} {js : List (Nat × Nat)} (h : PairsAt H vs js) : vs.length = js.length := (show Paired (PairP H) vs js from h).length
theorem PairsAt.dt {H : Hp} : ∀ {vs : List V} {js : List (Nat × Nat)}, PairsAt H vs js → DtAll H vs (js.map pairT)
  | _, [], .nil => .nil
  | _, j :: js, .cons ⟨t, e, tq⟩ r => by
    subst e
    exact .cons (dt_pairT tq) (PairsAt.dt r)
def flatP (ps : List (Nat × Nat)) : List Nat := ps.flatMap fun p => [p.1, p.2]
theorem flatP_snoc (ps : List (Nat × Nat)) (p : Nat × Nat) : flatP (ps ++ [p]) = flatP ps ++ [p.1, p.2] := by
  unfold flatP
  rw [List.flatMap_append]
  rfl
theorem flatP_len : ∀ ps : List (Nat × Nat), (flatP ps).length = 2 * ps.length
  | [] => rfl
  | p :: ps => by
    show (p.1 :: p.2 :: flatP ps).length = _
    rw [List.length_cons, List.length_cons, List.length_cons, flatP_len ps]
    omega
def intsV (xs : List Nat) : List V := xs.map fun n => V.int (n : Nat)
theorem ints_at {xs : List Nat} {i : Nat} {v : V} (h : (intsV xs)[i]? = some v) : ∃ x, xs[i]? = some x ∧ v = .int (x : Nat) := by
  unfold intsV at h
  rw [List.getElem?_map] at h
  cases e : xs[i]? with
  | none =>
    rw [e] at h
    cases h
  | some x =>
    rw [e] at h
    exact ⟨x, rfl, (Option.some.inj h).symm⟩
def intsD (xs : List Nat) : List PyData := xs.map fun n => PyData.int (n : Nat)
theorem dt_ints {H : Hp} : ∀ xs : List Nat, DtAll H (intsV xs) (intsD xs)
  | [] => .nil
  | x :: xs => .cons (.int _) (dt_ints xs)
theorem low_lst {ds : List PyData} (h : ∀ d ∈ ds, Low 18 d) : Low 20 (.list ds) := ⟨noDicts_all fun d hd => (h d hd).nd, by
  have q := depth_all (n := 18) fun d hd => (h d hd).dep
  show PyData.depthAll ds + 1 ≤ 20
  omega⟩
theorem low_ints (xs : List Nat) : Low 20 (.list (intsD xs)) := low_lst fun d hd => by
  obtain ⟨n, _, rfl⟩ := List.mem_map.mp hd
  exact ⟨rfl, Nat.zero_le _⟩
theorem low18_pair (p : Nat × Nat) : Low 18 (pairT p) := by
  refine ⟨rfl, ?_⟩
  have q := depth_all (n := 0) (ds := [PyData.int (p.1 : Nat), .int (p.2 : Nat)]) fun d hd => by
    have hd2 : d = .int (p.1 : Nat) ∨ d = .int (p.2 : Nat) := by simpa using hd
    rcases hd2 with rfl | rfl <;> exact Nat.le_refl _
  show PyData.depthAll [PyData.int (p.1 : Nat), .int (p.2 : Nat)] + 1 ≤ 18
  omega
theorem low_pairs (ps : List (Nat × Nat)) : Low 20 (.list (ps.map pairT)) := low_lst fun d hd => by obtain ⟨e, _, rfl⟩ := List.mem_map.mp hd; exact low18_pair e
theorem rgV_nat (n : Nat) : rgV 0 (n : Int) = intsV (List.range n) := by
  unfold rgV intsV
  rw [Int.sub_zero, Int.toNat_natCast]
  refine List.map_congr_left fun i _ => ?_
  rw [Int.zero_add]
def endAt (es : List End) (i : Nat) : End := (es[i]?).getD (0, "")
theorem range_ends (es : List End) : (List.range es.length).map (endAt es) = es := by
  refine List.ext_getElem? fun i => ?_
  rw [List.getElem?_map]
  by_cases h : i < es.length
  · rw [List.getElem?_range h]
    show some (endAt es i) = _
    unfold endAt
    rw [List.getElem?_eq_getElem h]
    rfl
  · rw [List.getElem?_eq_none (by rw [List.length_range]; omega), List.getElem?_eq_none (by omega)]
    rfl
theorem endAt_of {es : List End} {i : Nat} (h : i < es.length) : es[i]? = some (endAt es i) := by
  unfold endAt
  rw [List.getElem?_eq_getElem h]
  rfl
theorem tup_offL {l t : Addr} {H H' : Hp} {xs ys : List V} (h : TupAt H t xs) (o : Off l H H') (e : H l = some (.lst ys)) : TupAt H' t xs := h.off o fun z => by
  subst z
  rcases h.rd with q | ⟨u, q⟩ <;> (rw [e] at q; cases q)
theorem PairsAt.offL {l : Addr} {H H' : Hp} {vs ys : List V} {js : List (Nat × Nat)} (h : PairsAt H vs js) (o : Off l H H') (e : H l = some (.lst ys)) : PairsAt H' vs js := L2.Paired.mapP h fun _ _ ⟨q, e1, t⟩ => ⟨q, e1, tup_offL t o e⟩
theorem EndsAt.offL {l : Addr} {H H' : Hp} {vs ys : List V} {js : List End} (h : EndsAt H vs js) (o : Off l H H') (e : H l = some (.lst ys)) : EndsAt H' vs js := L2.Paired.mapP h fun _ _ ⟨q, e1, t⟩ => ⟨q, e1, tup_offL t o e⟩
theorem ways_first {rows : Rows2} (m : Mut rows) {x p : Str} (h : (x, p) ∈ rows) (rest : List Str) : countW rows (x :: rest) = countW rows (rest.erase p) * rest.count p := by
  by_cases c : p ∈ rest
  · have q := List.perm_cons_erase c
    rw [ways_perm (q.cons x), ways_pair m h, List.count_erase_self]
    congr 1
    have := List.count_pos_iff.mpr c
    omega
  · have c0 := List.count_eq_zero_of_not_mem c
    rw [ways_none m h c0, c0, Nat.mul_zero]
end Toy
set_option Elab.async false
set_option linter.all false
set_option maxRecDepth 100000
set_option maxHeartbeats 4000000
namespace Toy
open PySem PySem.Spec PyProof.Rows L2
/-! ### all pairings -/
def srtA (ES : List End) (i : Nat) : Str := (endAt ES i).2
def prtB (rows : Rows2) (ES : List End) (i j : Nat) : Bool := decide ((srtA ES i, srtA ES j) ∈ rows)
def offN (b : Nat) (xs : List Nat) : List Nat := xs.filter fun c => decide (c ≠ b)
def pairN (rows : Rows2) (ES : List End) : Nat → List Nat → List (List (Nat × Nat))
  | _, [] => [[]]
  | 0, _ :: _ => []
  | n + 1, a :: rest => (rest.filter fun b => prtB rows ES a b).flatMap fun b => (pairN rows ES n (offN b rest)).map fun r => (a, b) :: r
theorem off_len {b : Nat} : ∀ {xs : List Nat}, xs.Nodup → b ∈ xs → (offN b xs).length + 1 = xs.length := fun {xs} nd h => by
  have e : offN b xs = xs.erase b := by
    rw [nd.erase_eq_filter]
    unfold offN
    congr 1
    funext x
    by_cases c : x = b <;> simp [c]
  rw [e, List.length_erase_of_mem h]
  have := List.length_pos_of_mem h
  omega
theorem off_sub {b : Nat} {xs : List Nat} : (offN b xs).Sublist xs := List.filter_sublist
theorem flat_len {α β : Type} (f : α → List β) (m : Nat) : ∀ xs : List α, (∀ x ∈ xs, (f x).length = m) → (xs.flatMap f).length = xs.length * m
  | [], _ => by rw [List.flatMap_nil, List.length_nil, List.length_nil, Nat.zero_mul]
  | x :: xs, h => by
    rw [List.flatMap_cons, List.length_append, flat_len f m xs fun y hy => h y (List.mem_cons_of_mem _ hy), h x List.mem_cons_self, List.length_cons, Nat.add_mul, Nat.one_mul, Nat.add_comm]
theorem flat_le {α β : Type} (f : α → List β) (m : Nat) : ∀ xs : List α, (∀ x ∈ xs, (f x).length ≤ m) → (xs.flatMap f).length ≤ xs.length * m
  | [], _ => Nat.zero_le _
  | x :: xs, h => by
    rw [List.flatMap_cons, List.length_append, List.length_cons, Nat.add_mul, Nat.one_mul, Nat.add_comm]
    exact Nat.add_le_add (flat_le f m xs fun y hy => h y (List.mem_cons_of_mem _ hy)) (h x List.mem_cons_self)
theorem flat_congr {α β : Type} {f g : α → List β} : ∀ xs : List α, (∀ x ∈ xs, f x = g x) → xs.flatMap f = xs.flatMap g
  | [], _ => rfl
  | x :: xs, h => by rw [List.flatMap_cons, List.flatMap_cons, h x List.mem_cons_self, flat_congr xs fun y hy => h y (List.mem_cons_of_mem _ hy)]
/-- as many as count tells -/
theorem pair_count {rows : Rows2} {ES : List End} (m : Mut rows) : ∀ (n : Nat) (xs : List Nat), xs.Nodup → xs.length ≤ 2 * n → (∀ x ∈ xs, srtA ES x ∈ rows.map (·.1)) → (pairN rows ES n xs).length = countW rows (xs.map (srtA ES))
  | n, [], _, _, _ => by
    rw [List.map_nil, ways_nil]
    cases n <;> rfl
  | 0, _ :: _, _, h, _ => absurd h (by rw [List.length_cons]; omega)
  | n + 1, a :: rest, nd, h, hs => by
    obtain ⟨r, hr, er⟩ := List.mem_map.mp (hs a List.mem_cons_self)
    obtain ⟨na, ndr⟩ := List.nodup_cons.mp nd
    have hp : (srtA ES a, r.2) ∈ rows := by rw [← er]; exact hr
    have pb : ∀ b, prtB rows ES a b = decide (srtA ES b = r.2) := fun b => by
      unfold prtB
      by_cases c : srtA ES b = r.2
      · rw [c, decide_eq_true hp, decide_eq_true rfl]
      · rw [decide_eq_false c, decide_eq_false fun q => c ?_]
        have := m.one q hp rfl
        exact congrArg (·.2) this
    rw [List.map_cons, ways_first m hp]
    have e1 : (pairN rows ES (n + 1) (a :: rest)).length = (rest.filter fun b => prtB rows ES a b).length * countW rows ((rest.map (srtA ES)).erase r.2) := by
      refine flat_len _ _ _ fun b hb => ?_
      obtain ⟨hbm, hbp⟩ := List.mem_filter.mp hb
      rw [pb b] at hbp
      have eb := of_decide_eq_true hbp
      have lo := off_len ndr hbm
      rw [List.length_map, pair_count m n (offN b rest) (ndr.sublist off_sub) (by rw [List.length_cons] at h; omega) fun x hx => hs x (List.mem_cons_of_mem _ (off_sub.subset hx))]
      refine ways_perm ?_
      have ee : offN b rest = rest.erase b := by
        rw [ndr.erase_eq_filter]
        unfold offN
        congr 1
        funext x
        by_cases c : x = b <;> simp [c]
      rw [ee, ← eb]
      have p := ((List.perm_cons_erase hbm).map (srtA ES)).erase (srtA ES b)
      rw [List.map_cons, List.erase_cons_head] at p
      exact p.symm
    rw [e1, Nat.mul_comm]
    congr 1
    rw [List.count_eq_countP, List.countP_map, List.countP_eq_length_filter]
    congr 1
    refine List.filter_congr fun b _ => ?_
    rw [pb b]
    by_cases c : srtA ES b = r.2 <;> simp [c]
def mostP : Nat → Nat
  | 0 => 1
  | n + 1 => (2 * n + 1) * mostP n
theorem pair_most (rows : Rows2) (ES : List End) : ∀ (n : Nat) (xs : List Nat), xs.Nodup → xs.length ≤ 2 * n → (pairN rows ES n xs).length ≤ mostP n
  | 0, [], _, _ => Nat.le_refl _
  | n + 1, [], nd, h => by
    have := pair_most rows ES n [] nd (Nat.zero_le _)
    have e : (pairN rows ES n []).length = 1 := by cases n <;> rfl
    show 1 ≤ (2 * n + 1) * mostP n
    have a : 1 ≤ mostP n := by omega
    exact Nat.mul_le_mul (show 1 ≤ 2 * n + 1 by omega) a
  | 0, _ :: _, _, h => absurd h (by rw [List.length_cons]; omega)
  | n + 1, a :: rest, nd, h => by
    obtain ⟨na, ndr⟩ := List.nodup_cons.mp nd
    rw [List.length_cons] at h
    refine Nat.le_trans (flat_le _ (mostP n) _ fun b hb => ?_) (Nat.mul_le_mul (Nat.le_trans (List.length_filter_le _ _) (by omega)) (Nat.le_refl _))
    obtain ⟨hbm, _⟩ := List.mem_filter.mp hb
    have lo := off_len ndr hbm
    rw [List.length_map]
    exact pair_most rows ES n _ (ndr.sublist off_sub) (by omega)
theorem pair_each (rows : Rows2) (ES : List End) : ∀ (n : Nat) (xs : List Nat) (p : List (Nat × Nat)), p ∈ pairN rows ES n xs → 2 * p.length = xs.length ∨ xs.length > 2 * n ∨ ¬ xs.Nodup
  | n, [], p, h => by
    have : p = [] := by cases n <;> simpa [pairN] using h
    subst this
    exact .inl rfl
  | 0, _ :: _, p, h => nomatch h
  | n + 1, a :: rest, p, h => by
    by_cases nd : (a :: rest).Nodup
    · obtain ⟨na, ndr⟩ := List.nodup_cons.mp nd
      obtain ⟨b, hb, h⟩ := List.mem_flatMap.mp h
      obtain ⟨r, hr, rfl⟩ := List.mem_map.mp h
      obtain ⟨hbm, _⟩ := List.mem_filter.mp hb
      have lo := off_len ndr hbm
      rw [List.length_cons, List.length_cons]
      rcases pair_each rows ES n _ r hr with q | q | q
      · exact .inl (by omega)
      · exact .inr (.inl (by omega))
      · exact absurd (ndr.sublist off_sub) q
    · exact .inr (.inr nd)
/-! ### the same, turn by turn -/
abbrev PRow := List (Nat × Nat) × List Nat
def stepP (rows : Rows2) (ES : List End) (x : PRow) : List PRow := match x.2 with
  | [] => []
  | a :: rest => (rest.filter fun b => prtB rows ES a b).map fun b => (x.1 ++ [(a, b)], offN b rest)
def turnP (rows : Rows2) (ES : List End) : Nat → List PRow → List PRow
  | 0, L => L
  | t + 1, L => turnP rows ES t (L.flatMap (stepP rows ES))
theorem turn_snoc (rows : Rows2) (ES : List End) : ∀ (t : Nat) (L : List PRow), turnP rows ES (t + 1) L = (turnP rows ES t L).flatMap (stepP rows ES)
  | 0, _ => rfl
  | t + 1, L => turn_snoc rows ES t _
theorem turn_pair (rows : Rows2) (ES : List End) : ∀ (t : Nat) (L : List PRow), (∀ x ∈ L, x.2.Nodup ∧ (x.2.length = 2 * t ∨ x.2.length + 1 = 2 * t)) → (turnP rows ES t L).map (·.1) = L.flatMap fun x => (pairN rows ES t x.2).map fun p => x.1 ++ p
  | 0, L, h => by
    show L.map (·.1) = _
    have e : ∀ x ∈ L, (pairN rows ES 0 x.2).map (fun p => x.1 ++ p) = [x.1] := fun x hx => by
      have l : x.2.length = 0 := by
        have := (h x hx).2
        omega
      rw [List.length_eq_zero_iff.mp l]
      show [x.1 ++ []] = _
      rw [List.append_nil]
    clear h
    induction L with
    | nil => rfl
    | cons x L ih =>
      rw [List.map_cons, List.flatMap_cons, e x List.mem_cons_self, ih fun y hy => e y (List.mem_cons_of_mem _ hy)]
      rfl
  | t + 1, L, h => by
    show (turnP rows ES t (L.flatMap (stepP rows ES))).map (·.1) = _
    rw [turn_pair rows ES t _ fun y hy => ?_]
    · rw [List.flatMap_assoc]
      refine flat_congr _ fun x hx => ?_ 
      obtain ⟨nd, l⟩ := h x hx
      obtain ⟨x1, x2⟩ := x
      cases x2 with
      | nil =>
        simp only [List.length_nil] at l
        omega
      | cons a rest =>
        show ((rest.filter fun b => prtB rows ES a b).map fun b => (x1 ++ [(a, b)], offN b rest)).flatMap _ = ((rest.filter fun b => prtB rows ES a b).flatMap fun b => (pairN rows ES t (offN b rest)).map fun r => (a, b) :: r).map _
        rw [List.flatMap_map, List.map_flatMap]
        refine flat_congr _ fun b _ => ?_
        rw [List.map_map]
        refine List.map_congr_left fun p _ => ?_
        show (x1 ++ [(a, b)]) ++ p = x1 ++ (a, b) :: p
        rw [List.append_assoc]
        rfl
    · obtain ⟨x, hx, hy⟩ := List.mem_flatMap.mp hy
      obtain ⟨nd, l⟩ := h x hx
      obtain ⟨x1, x2⟩ := x
      cases x2 with
      | nil => cases hy
      | cons a rest =>
        obtain ⟨na, ndr⟩ := List.nodup_cons.mp nd
        obtain ⟨b, hb, rfl⟩ := List.mem_map.mp (show y ∈ (rest.filter fun b => prtB rows ES a b).map _ from hy)
        obtain ⟨hbm, _⟩ := List.mem_filter.mp hb
        have lo := off_len ndr hbm
        have l2 : (a :: rest).length = 2 * (t + 1) ∨ (a :: rest).length + 1 = 2 * (t + 1) := l
        rw [List.length_cons] at l2
        exact ⟨ndr.sublist off_sub, by show (offN b rest).length = _ ∨ (offN b rest).length + 1 = _; omega⟩
end Toy
set_option Elab.async false
set_option linter.all false
set_option maxRecDepth 100000
set_option maxHeartbeats 4000000
namespace Toy
open PySem PySem.Spec PyProof.Rows L2
theorem eqv_row (a b : Str × Str) : PyData.eqv (rowT a) (rowT b) = decide (a = b) := by
  show (PyData.eqv (.str a.1) (.str b.1) && (PyData.eqv (.str a.2) (.str b.2) && true)) = _
  rw [eqvS, eqvS, Bool.and_true]
  obtain ⟨a1, a2⟩ := a
  obtain ⟨b1, b2⟩ := b
  show (decide (a1 = b1) && decide (a2 = b2)) = _
  by_cases h1 : a1 = b1 <;> by_cases h2 : a2 = b2 <;> simp [h1, h2]
theorem any_rows (rows : Rows2) (z : Str × Str) : ((rows.map rowT).any fun y => PyData.eqv y (rowT z)) = decide (z ∈ rows) := by
  induction rows with
  | nil => rfl
  | cons r rows ih =>
    rw [List.map_cons, List.any_cons, ih, eqv_row, ← Bool.decide_or]
    exact decide_eq_decide.mpr ⟨fun h => h.elim (fun e => by rw [e]; exact List.mem_cons_self) (List.mem_cons_of_mem _), fun h => (List.mem_cons.mp h).elim (fun e => .inl e.symm) .inr⟩
def spPartB (C : Addr) : Sp := fun vs H Q _ => ∃ (st q : Addr) (i j : Nat) (rows : Rows2) (ks : List KRow) (es' : List V) (ES : List End), vs = [.ref st, .ref q, .int (i : Nat), .int (j : Nat)] ∧ StkP C H st rows ks ∧ H q = some (.lst es') ∧ EndsAt H es' ES ∧ (∀ e ∈ ES, nameS e.2 = true) ∧ i < ES.length ∧ j < ES.length ∧
  ∀ H', Same H H' → Q (.bl (prtB rows ES i j)) H'
def RowP (H : Hp) (r : Addr) (prs : List (Nat × Nat)) : Prop := ∃ vs, H r = some (.lst vs) ∧ PairsAt H vs prs
def RowsP (H : Hp) (rs : List Addr) (L : List (List (Nat × Nat))) : Prop := Paired (RowP H) rs L
theorem RowsP.same {H H' : Hp} (s : Same H H') {rs : List Addr} {L : List (List (Nat × Nat))} (h : RowsP H rs L) : RowsP H' rs L := L2.Paired.mapP h fun _ _ ⟨vs, e, p⟩ => ⟨vs, s _ _ e, p.same s⟩
theorem RowsP.len {H : Hp} {rs : List Addr} {L : List (List (Nat × Nat))} (h : RowsP H rs L) : rs.length = L.length := (show Paired (RowP H) rs L from h).length
theorem RowsP.app {H : Hp} : ∀ {rs ws : List Addr} {L M : List (List (Nat × Nat))}, RowsP H rs L → RowsP H ws M → RowsP H (rs ++ ws) (L ++ M)
  | _, _, _, _, .nil, h => h
  | _, _, _, _, .cons a t, h => .cons a (RowsP.app t h)
theorem RowsP.offL {l : Addr} {H H' : Hp} {ys : List V} (o : Off l H H') (e : H l = some (.lst ys)) : ∀ {rs : List Addr} {L : List (List (Nat × Nat))}, RowsP H rs L → (∀ r ∈ rs, r ≠ l) → RowsP H' rs L
  | _, _, .nil, _ => .nil
  | _, _, .cons ⟨vs, a, b⟩ t, n => .cons ⟨vs, o _ _ a (n _ List.mem_cons_self), b.offL o e⟩ (RowsP.offL o e t fun r h => n r (List.mem_cons_of_mem _ h))
def spPairedP (C : Addr) (n : Nat) : Sp := fun vs H Q _ => ∃ (st q l : Addr) (rows : Rows2) (ks : List KRow) (es' : List V) (ES : List End) (xs : List Nat), vs = [.ref st, .ref q, .ref l] ∧ StkP C H st rows ks ∧ H q = some (.lst es') ∧ EndsAt H es' ES ∧ (∀ e ∈ ES, nameS e.2 = true) ∧
  H l = some (.lst (intsV xs)) ∧ xs.Nodup ∧ (∀ x ∈ xs, x < ES.length) ∧ xs.length ≤ 2 * n ∧ n ≤ 5 ∧
  ∀ (p : Addr) (rs : List Addr) (H' : Hp), H p = none → Same H H' → H' p = some (.lst (rs.map V.ref)) → RowsP H' rs (pairN rows ES n xs) → (∀ r ∈ rs, H r = none) → Q (.ref p) H'
theorem most5 {n : Nat} (h : n ≤ 5) : mostP n ≤ 945 := by
  have h6 : n = 0 ∨ n = 1 ∨ n = 2 ∨ n = 3 ∨ n = 4 ∨ n = 5 := by omega
  rcases h6 with rfl | rfl | rfl | rfl | rfl | rfl <;> decide
theorem inV_intP {x a b : Nat} : inV (.int (x : Nat)) [.int (a : Nat), .int (b : Nat)] = decide (x = a ∨ x = b) := by
  show (((a : Int) == (x : Int)) || (((b : Int) == (x : Int)) || false)) = _
  rw [Bool.or_false, Bool.eq_iff_iff]
  simp only [Bool.or_eq_true, beq_iff_eq, decide_eq_true_eq]
  omega
section
variable {P : Program} {w : World} {K : PySem.W.Frag} {mg : Str → Option Value} {base : Heap}
abbrev ptN : List Str := ["stock", "ends", "first", "other"]
theorem scPartners : FnScope ptN ["stock", "ends", "first", "other"] (defScope sPartners) := ⟨rfl, rfl, rfl, by decide +kernel, rfl, by decide +kernel, by decide +kernel⟩
theorem ok_partB {f fX C CN : Addr} {fd : FuncData} (F : Fun K "_are_partners" "_are_partners" sPartners f fd) (T : StkC K mg C CN fX) :
    FnOk P w K mg base CX0 1 f fd ["stock", "ends", "first", "other"] (spPartB C) := by
  refine F.ok scPartners (fun vs H Q E h => ?_) (fun cdv A outer s H vs Q E hr h => ?_)
  · obtain ⟨st, q, i, j, rows, ks, ws, es, rfl, _⟩ := h
    rfl
  · obtain ⟨st, q, i, j, rows, ks, ws, es, rfl, sg, hq, ev, nam, h1, h2, k⟩ := h
    have hu65 : (A.deeper (envOfC "_are_partners" (defScope sPartners) s.heap.objs.size f cdv)).units + 65 < cLine := by
      have := hr.un
      omega
    refine ⟨_, (pss_one (ps_ret (pe_cmpR (op_inD hu65) (pe_tup (pa_cons (pe_ix ix_tup (pe_ix ix_list (pv 1) (pv 2) (fun _ _ => rfl)) pe_int (fun _ _ => rfl)) (pa_cons (pe_ix ix_tup (pe_ix ix_list (pv 1) (pv 3) (fun _ _ => rfl)) pe_int (fun _ _ => rfl)) pa_nil))) (pe_fld (pv 0) rfl) (by rfl)))), ?_⟩
    have n1 := nam _ (List.mem_of_getElem? (endAt_of h1))
    have n2 := nam _ (List.mem_of_getElem? (endAt_of h2))
    obtain ⟨t1, w1, tq1⟩ := ends_at ev (endAt_of h1)
    obtain ⟨t2, w2, tq2⟩ := ends_at ev (endAt_of h2)
    refine ⟨_, rfl, _, rfl, q, ws, _, _, rfl, rfl, SqL.of hq, at_of rfl w1, t1, _, 1, _, rfl, rfl, tq1.sq, ix1, _, rfl, _, rfl, q, ws, _, _, rfl, rfl, SqL.of hq, at_of rfl w2, t2, _, 1, _, rfl, rfl, tq2.sq, ix1, by show 2 ≤ sizeLine; decide, fun u nu => ?_⟩
    obtain ⟨⟨dx, l, m, ea, dl, dm⟩, _, _⟩ := sg.g.at_
    have s1 := same_new (o := .tup [.str (endAt es i).2, .str (endAt es j).2]) nu
    have du : Dt (upd H u (.tup [.str (endAt es i).2, .str (endAt es j).2])) (.ref u) (rowT ((endAt es i).2, (endAt es j).2)) := dt_row n1 n2 upd_same
    have dl1 := dl.same s1
    have ea1 := s1 _ _ ea
    have lr : Low 20 (rowT ((endAt es i).2, (endAt es j).2)) := ⟨(low_rowT _).1, (low_rowT _).2⟩
    have lrs := low_rows rows
    refine ⟨_, rfl, st, C, dx, _, _, rfl, ea1, T.cl, T.nS, sf_sorts _ _, rowT ((endAt es i).2, (endAt es j).2), rows.map rowT, du.dp lr.nd, dl1.dp lrs.nd, shape_of du lr, shape_of dl1 lrs, ?_⟩
    rw [any_rows]
    exact k _ s1
abbrev pdN : List Str := ["stock", "ends", "numbers", "first", "found", "other", "left", "number", "rest"]
theorem scPairedP : FnScope pdN ["stock", "ends", "numbers"] (defScope sPairedP) := ⟨rfl, rfl, rfl, by decide +kernel, rfl, by decide +kernel, by decide +kernel⟩
theorem paired_step {f fPT C : Addr} {fd fdPT : FuncData} {m n : Nat} {spR : Sp} (m1 : 1 ≤ m) (F : Fun K "_paired" "_paired" sPairedP f fd)
    (GPT : FnOk P w K mg base CX0 1 fPT fdPT ["stock", "ends", "first", "other"] (spPartB C)) (kPT : PySem.W.keepIn K (.ref fPT) = true) (bPT : Binds K fdPT ["stock", "ends", "first", "other"] []) (gPT : mg "_are_partners" = some (.ref fPT))
    (GRE : FnOk P w K mg base CX0 m f fd ["stock", "ends", "numbers"] spR) (kRE : PySem.W.keepIn K (.ref f) = true) (bRE : Binds K fd ["stock", "ends", "numbers"] []) (gRE : mg "_paired" = some (.ref f))
    (hR : ∀ n', n = n' + 1 → spR = spPairedP C n') :
    FnOk P w K mg base CX0 (m + 1) f fd ["stock", "ends", "numbers"] (spPairedP C n) := by
  refine F.ok scPairedP (fun vs H Q E h => ?_) (fun cdv A outer s H vs Q E hr h => ?_)
  · obtain ⟨st, q, l, rows, ks, es', ES, xs, rfl, _⟩ := h
    rfl
  · obtain ⟨st, q, l, rows, ks, es', ES, xs, rfl, sg, hq, ev, nam, hl, nd, lt, l2, n5, k⟩ := h
    have hr1 : Room 1 (A.deeper (envOfC "_paired" (defScope sPairedP) s.heap.objs.size f cdv)) := hr.mono m1
    have hrm : Room m (A.deeper (envOfC "_paired" (defScope sPairedP) s.heap.objs.size f cdv)) := hr
    refine ⟨_, (pss_cons (ps_if (pt_not (pt_truth (pv 2) (by intro _; rfl))) (pss_one (ps_ret (pe_lst (pa_cons (pe_lst pa_nil) pa_nil)))) pss_nil)
      (pss_cons (ps_set (i := 3) scPairedP.nd rfl (Or.inr rfl) (pe_ix ix_list (pv 2) pe_int (fun _ _ => rfl)))
      (pss_cons (ps_set (i := 4) scPairedP.nd rfl (Or.inl rfl) (pe_lst pa_nil))
      (pss_cons (ps_for PassesOwn.never rfl (pi_list (pe_slice sl_list (pv 2) (po_some pe_int) po_none)) (pg_name (i := 5) scPairedP.nd rfl (Or.inr rfl)) (pss_one (ps_if (pt_val (pe_call GPT hr1 (by rfl) gPT kPT bPT .nil pass0 (pa_cons (pv 0) (pa_cons (pv 1) (pa_cons (pv 3) (pa_cons (pv 5) pa_nil)))))) (pss_cons (ps_setLc (i := 6) (own := [("number", 7)]) (g := gName 7) (tt := tTest (tOp (rIn K true) (tVar 7) (tTup (tCons (tVar 3) (tCons (tVar 5) tNil))))) (te := (tVar 7)) rfl scPairedP.nd rfl rfl (sw_true rfl rfl rfl (by decide +kernel)) (pi_list (pv 2)) (blkOk_by (N := pdN) (sc := defScope sPairedP) (by decide +kernel)) (fun _ _ _ _ _ => pg_name (i := 7) scPairedP.nd rfl (Or.inl rfl)) (fun _ _ _ _ _ => pts_one (pt_cmpR op_notIn_seq (pv 7) (pe_tup (pa_cons (pv 3) (pa_cons (pv 5) pa_nil))) (by rfl))) (fun _ _ _ _ _ => (by exact (pv 7))))
      (pss_one (ps_expr (pe_bm PySem.F.plainAttrs_list PySem.F.slot_list_extend PySem.F.type_list_extend mt_extend (pv 4) (pa_cons (pe_lc (own := [("rest", 8)]) (g := gName 8) (tt := tYes) (te := (tLst (tCons (tTup (tCons (tVar 3) (tCons (tVar 5) tNil))) (StX.tStar K (tVar 8) tNil)))) rfl scPairedP.nd (pi_list (pe_call GRE hrm (by rfl) gRE kRE bRE .nil pass0 (pa_cons (pv 0) (pa_cons (pv 1) (pa_cons (pv 6) pa_nil))))) (blkOk_by (N := pdN) (sc := defScope sPairedP) (by decide +kernel)) (fun _ _ _ _ _ => pg_name (i := 8) scPairedP.nd rfl (Or.inl rfl)) (fun _ _ _ _ _ => pts_nil) (fun _ _ _ _ _ => (by exact (pe_lst (pa_cons (pe_tup (pa_cons (pv 3) (pa_cons (pv 5) pa_nil))) (StX.pa_star (pv 8) pa_nil)))))) pa_nil))))) pss_nil)))
      (pss_one (ps_ret (pv 4))))))), ?_⟩
    refine ⟨_, rfl, _, .inl ⟨_, SqL.of hl, rfl⟩, ?_⟩
    cases xs with
    | nil =>
      refine iteT ?_
      refine ⟨Nat.zero_le _, fun e0 ne0 => ?_⟩
      have t0 := same_new (o := .lst []) ne0
      have h0 : upd H e0 (.lst []) e0 = some (.lst []) := upd_same
      generalize upd H e0 (.lst []) = H1 at t0 h0 ⊢
      refine ⟨by show 1 ≤ sizeLine; decide, fun p np => ?_⟩
      have t1 := same_new (o := .lst [.ref e0]) np
      refine k p [e0] _ (t0.free np) (t0.trans t1) upd_same ?_ fun r hr_ => by rw [List.mem_singleton.mp hr_]; exact ne0
      have e : pairN rows ES n [] = [[]] := by cases n <;> rfl
      rw [e]
      exact .cons ⟨[], t1 _ _ h0, .nil⟩ .nil
    | cons a rest =>
      obtain ⟨n', rfl⟩ : ∃ n', n = n' + 1 := ⟨n - 1, by rw [List.length_cons] at l2; omega⟩
      have eR := hR n' rfl
      subst eR
      obtain ⟨na, ndr⟩ := List.nodup_cons.mp nd
      have lta := lt a List.mem_cons_self
      have ltr := fun x hx => lt x (List.mem_cons_of_mem _ hx)
      have lr : rest.length ≤ 9 := by rw [List.length_cons] at l2; omega
      have l2r : rest.length ≤ 2 * n' + 1 := by rw [List.length_cons] at l2; omega
      refine iteF ?_
      refine ⟨_, rfl, l, intsV (a :: rest), 0, .int (a : Nat), rfl, rfl, SqL.of hl, ix0, ?_⟩
      refine ⟨Nat.zero_le _, fun D nD => ?_⟩
      have x1 := same_new (o := .lst []) nD
      have sD : Same H (del (upd H D (.lst [])) D) := same_del' nD
      have hD : upd H D (.lst []) D = some (.lst (([] : List Addr).map V.ref)) := upd_same
      generalize upd H D (.lst []) = H1 at x1 sD hD ⊢
      refine ⟨_, rfl, 1, rfl, l, intsV (a :: rest), rfl, SqL.of (x1 _ _ hl), fun U nU => ?_⟩
      have eT : cutV (intsV (a :: rest)) (some 1) none = intsV rest := by
        rw [cut_tail]
        rfl
      rw [eT]
      have x2 := same_new (o := .lst (intsV rest)) nU
      have hU : upd H1 U (.lst (intsV rest)) U = some (.lst (intsV rest)) := upd_same
      have hD2 := x2 _ _ hD
      have nUD : U ≠ D := fun z => by rw [z, hD] at nU; cases nU
      have sD2 : Same H (del (upd H1 U (.lst (intsV rest))) D) := sD.trans (same_del x2)
      have fU : H U = none := x1.free nU
      have sU : Same (upd H U (.lst (intsV rest))) (del (upd H1 U (.lst (intsV rest))) D) := fun b o e => by
        by_cases c : b = U
        · subst c
          rw [upd_same] at e
          cases e
          unfold L2.del
          rw [if_neg nUD]
          exact hU
        · rw [upd_ne c] at e
          exact sD2 _ _ e
      have nDU : upd H U (.lst (intsV rest)) D = none := by
        rw [upd_ne fun z => nUD z.symm]
        exact nD
      have xU := same_new (o := .lst (intsV rest)) fU
      have hU0 : upd H U (.lst (intsV rest)) U = some (.lst (intsV rest)) := upd_same
      generalize upd H1 U (.lst (intsV rest)) = H2 at x2 hU hD2 sD2 sU ⊢
      -- in HU stand the others, too; D is changed all along
      generalize upd H U (.lst (intsV rest)) = HU at sU nDU xU hU0
      clear x1 sD hD x2 sD2 hU
      generalize eF : (fun b => prtB rows ES a b) = FF
      have lm : ∀ i, ((rest.take i).filter FF).length ≤ 9 := fun i => Nat.le_trans (List.length_filter_le _ _) (by rw [List.length_take]; omega)
      generalize eG : (fun b => (pairN rows ES n' (offN b rest)).map fun r => (a, b) :: r) = GG
      have gm : ∀ b ∈ rest, (GG b).length ≤ 945 := fun b hb => by
        rw [← eG, List.length_map]
        have := off_len ndr hb
        exact Nat.le_trans (pair_most rows ES n' _ (ndr.sublist off_sub) (by omega)) (most5 (by omega))
      have eP : pairN rows ES (n' + 1) (a :: rest) = (rest.filter FF).flatMap GG := by rw [← eF, ← eG]; rfl
      rw [eP] at k
      have lri : (intsV rest).length = rest.length := List.length_map _
      refine ⟨U, rfl, ⟨_, SqL.of (del_sub _ _ (sU _ _ hU0))⟩, for_list (K := K) (a := U) (xs := intsV rest) (fun i σ H' => ∃ y5 y6 y7 y8 rs, σ = [some (.ref st), some (.ref q), some (.ref l), some (.int (a : Nat)), some (.ref D), y5, y6, y7, y8] ∧ Same HU (del H' D) ∧ H' D = some (.lst (rs.map V.ref)) ∧ RowsP (del H' D) rs (((rest.take i).filter FF).flatMap GG) ∧ (∀ r ∈ rs, H r = none))
        ⟨_, _, _, _, [], rfl, sU, hD2, .nil, fun r hr_ => (nomatch hr_)⟩ (fun i σ H' _ h => by obtain ⟨_, _, _, _, _, _, s, _⟩ := h; exact SqL.of (del_sub _ _ (s _ _ hU0))) ?_ ?_⟩
      · rintro i v σ H3 hv ⟨y5, y6, y7, y8, rs, rfl, s3, hD3, rp3, fr3⟩
        obtain ⟨b, hb, rfl⟩ := ints_at hv
        have hbm := List.mem_of_getElem? hb
        have ltb := ltr b hbm
        have sH3 : Same H H3 := (xU.trans s3).trans (del_sub (H := H3) (p := D))
        have eA : ((rest.take (i + 1)).filter FF).flatMap GG = ((rest.take i).filter FF).flatMap GG ++ (if FF b = true then GG b else []) := by
          rw [take_snoc hb, List.filter_append, List.flatMap_append]
          congr 1
          by_cases c : FF b = true
          · rw [if_pos c, List.filter_cons_of_pos c, List.filter_nil, List.flatMap_cons, List.flatMap_nil, List.append_nil]
          · rw [if_neg c, List.filter_cons_of_neg c]
            rfl
        refine gn_go ?_
        refine ⟨_, rfl, _, rfl, _, rfl, _, rfl, st, q, a, b, rows, ks, es', ES, rfl, sg.same sH3, sH3 _ _ hq, ev.same sH3, nam, lta, ltb, fun H4 s4 => ?_⟩
        have ef : prtB rows ES a b = FF b := by rw [← eF]
        rw [ef]
        have s34 := s3.trans (same_del s4)
        have hD4 := s4 _ _ hD3
        have rp4 := rp3.same (same_del s4)
        have sH4 := sH3.trans s4
        refine ⟨_, rfl, ite2 (fun cc => ?_) (fun cc => ?_)⟩
        · rw [if_pos cc] at eA
          clear rp3 hD3 s3 sH3 s4
          -- those left
          refine ⟨_, rfl, l, rfl, ⟨_, SqL.of (sH4 _ _ hl)⟩, fun U2 nU2 => ?_⟩
          refine lc_it (walk_list (K := K) (a := l) (xs := intsV (a :: rest))) (fun j H' => Same H4 (del H' U2) ∧ H' U2 = some (.lst (intsV (((a :: rest).take j).filter fun c => decide (¬ (c = a ∨ c = b)))))) ⟨same_del' nU2, upd_same⟩ (fun j H' _ h => SqL.of (del_sub _ _ (h.1 _ _ (sH4 _ _ hl)))) ?_ ?_
          · rintro j x0 H5 H5' hj ⟨s5, hU5⟩ ⟨rfl, hx⟩
            obtain ⟨c, hc, rfl⟩ := ints_at hx
            have s5' := s5.trans (del_sub (H := H5') (p := U2))
            have eI : ((a :: rest).take (j + 1)).filter (fun c => decide (¬ (c = a ∨ c = b))) = ((a :: rest).take j).filter (fun c => decide (¬ (c = a ∨ c = b))) ++ (if ¬ (c = a ∨ c = b) then [c] else []) := by
              rw [take_snoc hc, List.filter_append]
              congr 1
              by_cases z : c = a ∨ c = b
              · rw [if_neg (fun q => q z), List.filter_cons_of_neg (by simp [z])]
                rfl
              · rw [if_pos z, List.filter_cons_of_pos (by simpa using z)]
                rfl
            have lf : (((a :: rest).take j).filter fun c => decide (¬ (c = a ∨ c = b))).length ≤ 10 := Nat.le_trans (List.length_filter_le _ _) (by rw [List.length_take, List.length_cons]; omega)
            refine ⟨rfl, _, rfl, _, rfl, _, rfl, by show 2 ≤ sizeLine; decide, fun tt ntt => ?_⟩
            have t5 := same_new (o := .tup [.int (a : Nat), .int (b : Nat)]) ntt
            have ht5 : upd H5' tt (.tup [.int (a : Nat), .int (b : Nat)]) tt = some (.tup [.int (a : Nat), .int (b : Nat)]) := upd_same
            have ntU : tt ≠ U2 := fun z => by rw [z, hU5] at ntt; cases ntt
            have s6 : Same H4 (del (upd H5' tt (.tup [.int (a : Nat), .int (b : Nat)])) U2) := s5.trans (same_del t5)
            have hU6 := t5 _ _ hU5
            generalize upd H5' tt (.tup [.int (a : Nat), .int (b : Nat)]) = H6 at t5 ht5 s6 hU6 ⊢
            refine ⟨tt, _, rfl, .inr (SqT.of ht5), rfl, rfl, _, rfl, ?_⟩
            have ei : (if true = true then !inV (.int (c : Nat)) [.int (a : Nat), .int (b : Nat)] else inV (.int (c : Nat)) [.int (a : Nat), .int (b : Nat)]) = decide (¬ (c = a ∨ c = b)) := by
              rw [if_pos rfl, inV_intP]
              by_cases z : c = a ∨ c = b <;> simp [z]
            rw [ei]
            refine ite2 (fun z => ?_) (fun z => ?_)
            · rw [if_pos (of_decide_eq_true z)] at eI
              refine ⟨_, rfl, _, hU6, small1000 (by unfold intsV; rw [List.length_map]; omega), s6.trans del_upd_same, ?_⟩
              rw [upd_same, eI]
              unfold intsV
              rw [List.map_append]
              rfl
            · rw [if_neg (fun q => z (decide_eq_true q)), List.append_nil] at eI
              exact ⟨s6, by rw [eI]; exact hU6⟩
          rintro H5 ⟨s5, hU5⟩
          have eO : ((a :: rest).take (intsV (a :: rest)).length).filter (fun c => decide (¬ (c = a ∨ c = b))) = offN b rest := by
            rw [show (intsV (a :: rest)).length = (a :: rest).length from List.length_map _, List.take_of_length_le (Nat.le_refl _), List.filter_cons_of_neg (by simp)]
            unfold offN
            refine List.filter_congr fun c hc => ?_
            have ne : c ≠ a := fun z => na (by rw [← z]; exact hc)
            by_cases z : c = b <;> simp [z, ne]
          rw [eO] at hU5
          have s45 := s5.trans (del_sub (H := H5) (p := U2))
          have sH5 := sH4.trans s45
          have hD5 := s45 _ _ hD4
          have s35 := s34.trans (same_del s45)
          have rp5 := rp4.same (same_del s45)
          clear s5 rp4 hD4 s34
          refine gn_go ?_
          refine ⟨_, rfl, .inl ⟨rfl, _, SqL.of hD5⟩, ?_⟩
          have lo := off_len ndr hbm
          refine ⟨_, rfl, _, rfl, _, rfl, st, q, U2, rows, ks, es', ES, offN b rest, rfl, sg.same sH5, sH5 _ _ hq, ev.same sH5, nam, hU5, ndr.sublist off_sub, fun x hx => ltr x (off_sub.subset hx), by omega, by omega, fun p2 rs2 H6 np2 s6 hp2 rp2 fr2 => ?_⟩
          refine ⟨p2, rfl, ⟨_, SqL.of hp2⟩, fun D2 nD2 => ?_⟩
          have lrs : (rs2.map V.ref).length = (pairN rows ES n' (offN b rest)).length := by rw [List.length_map, rp2.len]
          refine lc_it (walk_list (K := K) (a := p2) (xs := rs2.map V.ref)) (fun j H' => Same H6 (del H' D2) ∧ ∃ ls : List Addr, H' D2 = some (.lst (ls.map V.ref)) ∧ RowsP (del H' D2) ls (((pairN rows ES n' (offN b rest)).take j).map fun r => (a, b) :: r) ∧ ∀ r ∈ ls, H6 r = none) ⟨same_del' nD2, [], upd_same, .nil, fun r hr_ => (nomatch hr_)⟩ (fun j H' _ h => SqL.of (del_sub _ _ (h.1 _ _ hp2))) ?_ ?_
          · rintro j x0 H7 H7' hj ⟨s7, ls, hD7, rp7, fr7⟩ ⟨rfl, hx⟩
            rw [List.getElem?_map] at hx
            obtain ⟨r2, hr2, rfl⟩ := Option.map_eq_some_iff.mp hx
            obtain ⟨prs, hprs, vs, hvs, pvs⟩ := paired_at (show Paired (RowP H6) rs2 _ from rp2) hr2
            have le := pair_each rows ES n' (offN b rest) prs (List.mem_of_getElem? hprs)
            have lprs : prs.length ≤ 5 := by
              rcases le with le | le | le
              · omega
              · omega
              · exact absurd (ndr.sublist off_sub) le
            have lvs : vs.length ≤ 5 := by rw [pvs.len]; exact lprs
            have lls : ls.length ≤ 945 := by
              rw [rp7.len, List.length_map, List.length_take]
              have := pair_most rows ES n' (offN b rest) (ndr.sublist off_sub) (by omega)
              have := most5 (n := n') (by omega)
              omega
            refine ⟨rfl, ?_⟩
            delta tYes
            dsimp only
            rw [if_pos rfl]
            refine ⟨_, rfl, _, rfl, by show 2 ≤ sizeLine; decide, fun TT nT => ?_⟩
            have t8 := same_new (o := .tup [.int (a : Nat), .int (b : Nat)]) nT
            have hT8 : upd H7' TT (.tup [.int (a : Nat), .int (b : Nat)]) TT = some (.tup [.int (a : Nat), .int (b : Nat)]) := upd_same
            have nTD : TT ≠ D2 := fun z => by rw [z, hD7] at nT; cases nT
            have s8 : Same H6 (del (upd H7' TT (.tup [.int (a : Nat), .int (b : Nat)])) D2) := s7.trans (same_del t8)
            have hD8 := t8 _ _ hD7
            have rp8 := rp7.same (same_del t8)
            generalize upd H7' TT (.tup [.int (a : Nat), .int (b : Nat)]) = H8 at t8 hT8 s8 hD8 rp8 ⊢
            refine ⟨_, rfl, r2, vs, rfl, .inr (SqL.of (del_sub _ _ (s8 _ _ hvs))), ?_⟩
            refine ⟨by show (vs ++ []).length + 1 ≤ sizeLine; rw [List.append_nil, sizeLine_eq]; omega, fun RR nR => ?_⟩
            rw [List.append_nil]
            have t9 := same_new (o := .lst (.ref TT :: vs)) nR
            have hR9 : upd H8 RR (.lst (.ref TT :: vs)) RR = some (.lst (.ref TT :: vs)) := upd_same
            have nRD : RR ≠ D2 := fun z => by rw [z, hD8] at nR; cases nR
            have fR6 : H6 RR = none := (s8.trans del_sub).free nR
            have s9 : Same H6 (del (upd H8 RR (.lst (.ref TT :: vs))) D2) := s8.trans (same_del t9)
            have hD9 := t9 _ _ hD8
            have rp9 := rp8.same (same_del t9)
            have hT9 := t9 _ _ hT8
            generalize upd H8 RR (.lst (.ref TT :: vs)) = H9 at t9 hR9 s9 hD9 rp9 hT9 ⊢
            refine ⟨_, hD9, small1000 (by rw [List.length_map]; omega), s9.trans del_upd_same, ls ++ [RR], by rw [upd_same, List.map_append]; rfl, ?_, fun r hr_ => ?_⟩
            · rw [take_snoc hprs, List.map_append]
              refine (rp9.same del_upd_same).app (.cons ⟨.ref TT :: vs, ?_, .cons ⟨TT, rfl, .of ?_⟩ ((pvs.same s9).same del_upd_same)⟩ .nil)
              · unfold L2.del
                rw [if_neg nRD, upd_ne nRD]
                exact hR9
              · unfold L2.del
                rw [if_neg nTD, upd_ne nTD]
                exact hT9
            · rcases List.mem_append.mp hr_ with h | h
              · exact fr7 r h
              · rw [List.mem_singleton.mp h]
                exact fR6
          rintro H7 ⟨s7, ls, hD7, rp7, fr7⟩
          rw [lrs, List.take_of_length_le (Nat.le_refl _)] at rp7
          have s57 := s6.trans (s7.trans (del_sub (H := H7) (p := D2)))
          have eGb : GG b = (pairN rows ES n' (offN b rest)).map fun r => (a, b) :: r := by rw [← eG]
          rw [← eGb] at rp7
          have hD7' := s57 _ _ hD5
          have rs7 := rp5.same (same_del s57)
          have rp7' := rp7.same (del_sub (H := H7) (p := D2))
          have nD2D : D2 ≠ D := fun z => by rw [z, s6 _ _ hD5] at nD2; cases nD2
          have lrsA : rs.length ≤ 9 * 945 := by
            rw [rp5.len]
            exact Nat.le_trans (flat_le GG 945 _ fun x hx => gm x (List.mem_of_mem_take (List.mem_filter.mp hx).1)) (Nat.mul_le_mul (lm i) (Nat.le_refl _))
          have llsA : ls.length ≤ 945 := by rw [rp7.len]; exact gm b hbm
          have frl : ∀ r ∈ ls, H r = none := fun r hr_ => (sH5.trans s6).free (fr7 r hr_)
          refine ⟨D, D2, _, _, rfl, rfl, hD7', hD7, by rw [List.length_map, List.length_map, sizeLine_eq]; omega, ?_⟩
          refine ⟨_, _, _, _, rs ++ ls, rfl, (s35.trans (same_del s57)).trans del_upd_same, by rw [upd_same, List.map_append], ?_, fun r hr_ => ?_⟩
          · rw [eA]
            refine (rs7.same del_upd_same).app (RowsP.offL (l := D) (fun b o e nb => ?_) hD7' rp7' fun r hr_ z => ?_)
            · unfold L2.del
              rw [if_neg nb, upd_ne nb]
              exact e
            · have q := fr7 r hr_
              rw [z, s6 _ _ hD5] at q
              cases q
          · rcases List.mem_append.mp hr_ with h | h
            · exact fr3 r h
            · exact frl r h
        · rw [if_neg cc, List.append_nil] at eA
          exact ⟨_, _, _, _, rs, rfl, s34, hD4, by rw [eA]; exact rp4, fr3⟩
      · rintro σ H3 ⟨y5, y6, y7, y8, rs, rfl, s3, hD3, rp3, fr3⟩
        rw [lri, List.take_of_length_le (Nat.le_refl _)] at rp3
        have sH3 : Same H H3 := (xU.trans s3).trans (del_sub (H := H3) (p := D))
        exact ⟨_, rfl, k D rs H3 nD sH3 hD3 (rp3.same del_sub) fr3⟩
theorem ok_pairedP {f fPT C : Addr} {fd fdPT : FuncData} (F : Fun K "_paired" "_paired" sPairedP f fd)
    (GPT : FnOk P w K mg base CX0 1 fPT fdPT ["stock", "ends", "first", "other"] (spPartB C)) (kPT : PySem.W.keepIn K (.ref fPT) = true) (bPT : Binds K fdPT ["stock", "ends", "first", "other"] []) (gPT : mg "_are_partners" = some (.ref fPT))
    (kRE : PySem.W.keepIn K (.ref f) = true) (bRE : Binds K fd ["stock", "ends", "numbers"] []) (gRE : mg "_paired" = some (.ref f)) :
    ∀ n, FnOk P w K mg base CX0 (n + 2) f fd ["stock", "ends", "numbers"] (spPairedP C n)
  | 0 => paired_step (spR := fun _ _ _ _ => False) (by decide) F GPT kPT bPT gPT (F.ok scPairedP (fun vs H Q E h => h.elim) (fun cdv A outer s H vs Q E hr h => h.elim)) kRE bRE gRE fun n' e => nomatch e
  | n + 1 => paired_step (by omega) F GPT kPT bPT gPT (ok_pairedP F GPT kPT bPT gPT kRE bRE gRE n) kRE bRE gRE fun n' e => by
    have e2 : n = n' := Nat.succ.inj e
    rw [e2]
def spPairings (C : Addr) : Sp := fun vs H Q _ => ∃ (a c g : Addr) (rows : Rows2) (ks : List KRow) (cs : List Str) (lg : Rows2), vs = [.ref a, .ref c, .ref g] ∧ StkP C H a rows ks ∧ (∀ k ∈ ks, k.2.length ≤ 5) ∧ cs.length ≤ 6 ∧ lg.length ≤ 6 ∧ (∀ x ∈ cs, x ∈ ks.map (·.1)) ∧
  H c = some (.lst (cs.map V.str)) ∧ Dt H (.ref c) (.list (cs.map .str)) ∧ Dt H (.ref g) (.list (lg.map rowT)) ∧ cornersD (ks.map (·.1)) (.list (cs.map .str)) = true ∧ legsD (rows.map (·.1)) (.list (lg.map rowT)) = true ∧ (∀ e ∈ allE ks cs lg, nameS e.2 = true) ∧ (allE ks cs lg).length ≤ 10 ∧
  ∀ (p : Addr) (rs : List Addr) (H' : Hp), H p = none → Same H H' → H' p = some (.lst (rs.map V.ref)) → RowsP H' rs (pairN rows (allE ks cs lg) 5 (List.range (allE ks cs lg).length)) → (∀ r ∈ rs, H r = none) → Q (.ref p) H'
abbrev prN : List Str := ["stock", "corners", "legs", "ends"]
theorem scPairings : FnScope prN ["stock", "corners", "legs"] (defScope sPairings) := ⟨rfl, rfl, rfl, by decide +kernel, rfl, by decide +kernel, by decide +kernel⟩
theorem ok_pairings {f fP fAE fPD C CN : Addr} {fd fdP fdAE fdPD : FuncData} (F : Fun K "pairings" "pairings" sPairings f fd) (M : Mods mg)
    (GP : FnOk P w K mg base (L2.CX P w) 4 fP fdP ["stock", "corners", "legs"] (spPlaces C CN)) (kP : PySem.W.keepIn K (.ref fP) = true) (bP : Binds K fdP ["stock", "corners", "legs"] []) (gP : mg "check_places" = some (.ref fP))
    (GAE : FnOk P w K mg base CX0 1 fAE fdAE ["stock", "corners", "legs"] (spAllEnds C)) (kAE : PySem.W.keepIn K (.ref fAE) = true) (bAE : Binds K fdAE ["stock", "corners", "legs"] []) (gAE : mg "all_ends" = some (.ref fAE))
    (GPD : FnOk P w K mg base CX0 7 fPD fdPD ["stock", "ends", "numbers"] (spPairedP C 5)) (kPD : PySem.W.keepIn K (.ref fPD) = true) (bPD : Binds K fdPD ["stock", "ends", "numbers"] []) (gPD : mg "_paired" = some (.ref fPD))
    (mR : mg "range" = none) {tMP : Tok} (hMP : mg "MOST_PAIRED_ENDS" = some (.int 10 tMP)) :
    FnOk P w K mg base (L2.CX P w) 8 f fd ["stock", "corners", "legs"] (spPairings C) := by
  refine F.okX scPairings (fun vs H Q E h => ?_) (fun cdv A outer s H vs Q E hr h => ?_)
  · obtain ⟨a, c, g, rows, ks, cs, lg, rfl, _⟩ := h
    rfl
  · obtain ⟨a, c, g, rows, ks, cs, lg, rfl, sg, k5, l6, g6, hcs, hc, dc, dg, ok1, ok2, nam, l10, k⟩ := h
    have hr1 : Room 1 (A.deeper (envOfC "pairings" (defScope sPairings) s.heap.objs.size f cdv)) := hr.mono (by decide)
    have hr4 : Room 4 (A.deeper (envOfC "pairings" (defScope sPairings) s.heap.objs.size f cdv)) := hr.mono (by decide)
    have hr7 : Room 7 (A.deeper (envOfC "pairings" (defScope sPairings) s.heap.objs.size f cdv)) := hr
    refine ⟨_, (pss_cons (ps_expr (pe_call GP hr4 (by rfl) gP kP bP .nil (passes_call (takes_of rfl rfl rfl rfl) (fun _ _ _ _ h => h)) (pa_cons (pv 0) (pa_cons (pv 1) (pa_cons (pv 2) pa_nil)))))
      (pss_cons (ps_set (i := 3) scPairings.nd rfl (Or.inl rfl) (pe_call GAE hr1 (by rfl) gAE kAE bAE .nil pass0 (pa_cons (pv 0) (pa_cons (pv 1) (pa_cons (pv 2) pa_nil)))))
      (pss_cons (ps_if (pt_cmpR op_gt (pe_callB call_len_seq (by rfl) M.len PySem.boot_len (pa_cons (pv 3) pa_nil)) (pe_glob (v := .int 10) rfl hMP ⟨_, rfl⟩) (nomark _)) (pss_one ps_never) pss_nil)
      (pss_one (ps_ret (pe_call GPD hr7 (by rfl) gPD kPD bPD .nil pass0 (pa_cons (pv 0) (pa_cons (pv 3) (pa_cons (pe_listRg rfl (by rfl) M.lst_ (prg_1 (by rfl) mR (pe_callB call_len_seq (by rfl) M.len PySem.boot_len (pa_cons (pv 3) pa_nil)))) pa_nil))))))))), ?_⟩
    refine ⟨_, rfl, _, rfl, _, rfl, a, rows, ks, .ref c, .ref g, _, _, rfl, sg.g, dc, dg, ?_, ?_, fun _ _ H1 s1 => ?_⟩
    · intro h
      rw [ok1] at h
      cases h
    · intro _ h
      rw [ok2] at h
      cases h
    refine ⟨_, rfl, _, rfl, _, rfl, a, c, g, rows, ks, cs, lg, rfl, sg.same s1, k5, s1 _ _ hc, l6, hcs, dg.same s1, g6, fun q H2 vs nq s2 hq ev => ?_⟩
    have lv := ev.len
    refine ⟨_, rfl, q, _, rfl, .inl (SqL.of hq), _, _, rfl, rfl, _, rfl, ?_⟩
    refine ite2 (fun cc => ?_) (fun _ => ?_)
    · exfalso
      have := of_decide_eq_true cc
      omega
    refine ⟨_, rfl, _, rfl, _, rfl, q, _, rfl, .inl (SqL.of hq), _, rfl, RgOk.of_le (by omega) (by omega) (by omega) (by omega), fun L nL => ?_⟩
    have eL : rgV 0 ((vs.length : Nat) : Int) = intsV (List.range (allE ks cs lg).length) := by rw [lv]; exact rgV_nat _
    rw [eL]
    have x3 := same_new (o := .lst (intsV (List.range (allE ks cs lg).length))) nL
    have hL : upd H2 L (.lst (intsV (List.range (allE ks cs lg).length))) L = some (.lst (intsV (List.range (allE ks cs lg).length))) := upd_same
    generalize upd H2 L (.lst (intsV (List.range (allE ks cs lg).length))) = H3 at x3 hL ⊢
    have s13 := s1.trans (s2.trans x3)
    refine ⟨a, q, L, rows, ks, vs, allE ks cs lg, List.range (allE ks cs lg).length, rfl, sg.same s13, x3 _ _ hq, ev.same x3, nam, hL, List.nodup_range, fun x hx => List.mem_range.mp hx, by rw [List.length_range]; omega, by decide, fun p rs H4 np s4 hp rp fr => ?_⟩
    exact k p rs H4 (s13.free np) (s13.trans s4) hp rp fun r hr_ => s13.free (fr r hr_)
end
end Toy
set_option Elab.async false
set_option linter.all false
set_option maxRecDepth 100000
set_option maxHeartbeats 4000000
namespace Toy
open PySem PySem.Spec PyProof.Rows L2
def RLp (H : Hp) (v : V) (x : PRow) : Prop := ∃ t r l vs, v = .ref t ∧ TupAt H t [.ref r, .ref l] ∧ H r = some (.lst vs) ∧ PairsAt H vs x.1 ∧ H l = some (.lst (intsV x.2))
def RLs (H : Hp) (ws : List V) (L : List PRow) : Prop := Paired (RLp H) ws L
theorem RLs.same {H H' : Hp} (s : Same H H') {ws : List V} {L : List PRow} (h : RLs H ws L) : RLs H' ws L := L2.Paired.mapP h fun _ _ ⟨t, r, l, vs, e, a, b, c, d⟩ => ⟨t, r, l, vs, e, a.same s, s _ _ b, c.same s, s _ _ d⟩
theorem RLs.len {H : Hp} {ws : List V} {L : List PRow} (h : RLs H ws L) : ws.length = L.length := (show Paired (RLp H) ws L from h).length
theorem RLs.app {H : Hp} : ∀ {ws ws' : List V} {L M : List PRow}, RLs H ws L → RLs H ws' M → RLs H (ws ++ ws') (L ++ M)
  | _, _, _, _, .nil, h => h
  | _, _, _, _, .cons a t, h => .cons a (RLs.app t h)
theorem paired_snoc {α β : Type} {G : α → β → Prop} : ∀ {xs : List α} {ys : List β} {x : α} {y : β}, Paired G xs ys → G x y → Paired G (xs ++ [x]) (ys ++ [y])
  | _, _, _, _, .nil, h => .cons h .nil
  | _, _, _, _, .cons a t, h => .cons a (paired_snoc t h)
theorem step_len (rows : Rows2) (ES : List End) (x : PRow) : (stepP rows ES x).length ≤ x.2.length := by
  unfold stepP
  split
  · exact Nat.zero_le _
  · rename_i a rest e
    rw [List.length_map, e, List.length_cons]
    exact Nat.le_succ_of_le (List.length_filter_le _ _)
structure RowOk (n i : Nat) (x : PRow) : Prop where
  nd : x.2.Nodup
  ln : x.2.length + 2 * i = n
  lt : ∀ y ∈ x.2, y < n
  l1 : x.1.length = i
theorem turn_ok (rows : Rows2) (ES : List End) (n : Nat) : ∀ i, ∀ x ∈ turnP rows ES i [([], List.range n)], RowOk n i x
  | 0, x, h => by
    have e : x = ([], List.range n) := by simpa [turnP] using h
    subst e
    exact ⟨List.nodup_range, by rw [List.length_range]; omega, fun y hy => List.mem_range.mp hy, rfl⟩
  | i + 1, x, h => by
    rw [turn_snoc] at h
    obtain ⟨y, hy, hx⟩ := List.mem_flatMap.mp h
    obtain ⟨nd, ln, lt, l1⟩ := turn_ok rows ES n i y hy
    obtain ⟨y1, y2⟩ := y
    cases y2 with
    | nil => cases hx
    | cons a rest =>
      obtain ⟨b, hb, rfl⟩ := List.mem_map.mp (show x ∈ (rest.filter fun b => prtB rows ES a b).map _ from hx)
      obtain ⟨hbm, _⟩ := List.mem_filter.mp hb
      obtain ⟨na, ndr⟩ := List.nodup_cons.mp nd
      have lo := off_len ndr hbm
      have ln : (a :: rest).length + 2 * i = n := ln
      rw [List.length_cons] at ln
      refine ⟨ndr.sublist off_sub, by show (offN b rest).length + 2 * (i + 1) = n; omega, fun z hz => lt z (List.mem_cons_of_mem _ (off_sub.subset hz)), ?_⟩
      show (y1 ++ [(a, b)]).length = i + 1
      rw [List.length_append, List.length_singleton]
      exact congrArg (· + 1) l1
theorem turn_len (rows : Rows2) (ES : List End) {n : Nat} (h10 : n ≤ 10) : ∀ i, (turnP rows ES i [([], List.range n)]).length ≤ 10 ^ i
  | 0 => Nat.le_refl _
  | i + 1 => by
    rw [turn_snoc]
    refine Nat.le_trans (flat_le _ 10 _ fun x hx => Nat.le_trans (step_len rows ES x) ?_) ?_
    · have := (turn_ok rows ES n i x hx).ln
      omega
    · rw [Nat.pow_succ]
      exact Nat.mul_le_mul (turn_len rows ES h10 i) (Nat.le_refl _)
def spAllPairings : Sp := fun vs H Q _ => ∃ (ls q : Addr) (rows : Rows2) (es' : List V) (ES : List End), vs = [.ref ls, .ref q] ∧ Dt H (.ref ls) (.list (rows.map rowT)) ∧ Mut rows ∧ H q = some (.lst es') ∧ EndsAt H es' ES ∧ (∀ e ∈ ES, e.2 ∈ rows.map (·.1)) ∧ ES.length ≤ 10 ∧
  ∀ (p : Addr) (rs : List Addr) (H' : Hp), Same H H' → H' p = some (.lst (rs.map V.ref)) → RowsP H' rs ((turnP rows ES ((ES.length + 1) / 2) [([], List.range ES.length)]).map (·.1)) → Q (.ref p) H'
section
variable {P : Program} {w : World} {K : PySem.W.Frag} {mg : Str → Option Value} {base : Heap}
abbrev alN : List Str := ["_law_sorts", "_law_ends", "_law_rows", "_law_turn", "_law_longer", "_law_row", "_law_left", "_law_sort", "_law_number", "_law_rest", "_law_one"]
theorem scAllPairings : FnScope alN ["_law_sorts", "_law_ends"] (defScope sAllPairings) := ⟨rfl, rfl, rfl, by decide +kernel, rfl, by decide +kernel, by decide +kernel⟩
theorem ok_allPairings {f : Addr} {fd : FuncData} (F : Fun K "_law_all_pairings" "_law_all_pairings" sAllPairings f fd) (M : Mods mg) (mR : mg "range" = none) :
    FnOk P w K mg base CX0 1 f fd ["_law_sorts", "_law_ends"] spAllPairings := by
  refine F.ok scAllPairings (fun vs H Q E h => ?_) (fun cdv A outer s H vs Q E hr h => ?_)
  · obtain ⟨ls, q, rows, es', ES, rfl, _⟩ := h
    rfl
  · obtain ⟨ls, q, rows, es', ES, rfl, ds, mu, hq, ev, mem, l10, k⟩ := h
    refine ⟨_, (pss_cons (ps_set (i := 2) scAllPairings.nd rfl (Or.inl rfl) (pe_lst (pa_cons (pe_tup (pa_cons (pe_lst pa_nil) (pa_cons (pe_listRg rfl (by rfl) M.lst_ (prg_1 (by rfl) mR (pe_callB call_len_seq (by rfl) M.len PySem.boot_len (pa_cons (pv 1) pa_nil)))) pa_nil))) pa_nil)))
      (pss_cons (ps_for PassesOwn.never rfl (pi_range1 (by rfl) mR (pa_cons (pe_op op_fdiv (pe_op op_add (pe_callB call_len_seq (by rfl) M.len PySem.boot_len (pa_cons (pv 1) pa_nil)) pe_int) pe_int) pa_nil)) (pg_name (i := 3) scAllPairings.nd rfl (Or.inl rfl)) (pss_cons (ps_set (i := 4) scAllPairings.nd rfl (Or.inl rfl) (pe_lst pa_nil))
      (pss_cons (ps_for PassesOwn.never rfl (pi_list (pv 2)) (pg_tup rfl (pgs_cons (pg_name (i := 5) scAllPairings.nd rfl (Or.inl rfl)) (pgs_cons (pg_name (i := 6) scAllPairings.nd rfl (Or.inl rfl)) pgs_nil))) (pss_cons (ps_set (i := 7) scAllPairings.nd rfl (Or.inl rfl) (pe_dget (hu_of hr) (pe_callTy (call_dictP rfl) (by rfl) M.dict_ (by decide +kernel) (pa_cons (pv 0) pa_nil)) (pe_ix ix_tup (pe_ix ix_list (pv 1) (pe_ix ix_list (pv 6) pe_int (fun _ _ => rfl)) (fun _ _ => rfl)) pe_int (fun _ _ => rfl)) (fun _ _ => rfl)))
      (pss_one (ps_for PassesOwn.never rfl (pi_list (pe_slice sl_list (pv 6) (po_some pe_int) po_none)) (pg_name (i := 8) scAllPairings.nd rfl (Or.inr rfl)) (pss_one (ps_if (pt_cmpR op_eq (pe_ix ix_tup (pe_ix ix_list (pv 1) (pv 8) (fun _ _ => rfl)) pe_int (fun _ _ => rfl)) (pv 7) (nomark _)) (pss_cons (ps_setLc (i := 9) (own := [("_law_one", 10)]) (g := gName 10) (tt := tTest (tOp rNe (tVar 10) (tVar 8))) (te := (tVar 10)) rfl scAllPairings.nd rfl rfl (sw_true rfl rfl rfl (by decide +kernel)) (pi_list (pe_slice sl_list (pv 6) (po_some pe_int) po_none)) (blkOk_by (N := alN) (sc := defScope sAllPairings) (by decide +kernel)) (fun _ _ _ _ _ => pg_name (i := 10) scAllPairings.nd rfl (Or.inl rfl)) (fun _ _ _ _ _ => pts_one (pt_cmpR op_ne (pv 10) (pv 8) (nomark _))) (fun _ _ _ _ _ => (by exact (pv 10))))
      (pss_one (ps_expr (pe_bm PySem.F.plainAttrs_list PySem.F.slot_list_append PySem.F.type_list_append mt_append (pv 4) (pa_cons (pe_tup (pa_cons (pe_op op_cat (pv 5) (pe_lst (pa_cons (pe_tup (pa_cons (pe_ix ix_list (pv 6) pe_int (fun _ _ => rfl)) (pa_cons (pv 8) pa_nil))) pa_nil))) (pa_cons (pv 9) pa_nil))) pa_nil))))) pss_nil))))))
      (pss_one (ps_set (i := 2) scAllPairings.nd rfl (Or.inl rfl) (pv 4))))))
      (pss_one (ps_ret (pe_lc (own := [("_law_row", 5), ("_law_left", 6)]) (g := gTup K 2 (gCons (gName 5) (gCons (gName 6) gNil)))  (tt := tYes) (te := (tVar 5)) rfl scAllPairings.nd (pi_list (pv 2)) (blkOk_by (N := alN) (sc := defScope sAllPairings) (by decide +kernel)) (fun _ _ _ _ _ => (pg_tup rfl (pgs_cons (pg_name (i := 5) scAllPairings.nd rfl (Or.inl rfl)) (pgs_cons (pg_name (i := 6) scAllPairings.nd rfl (Or.inl rfl)) pgs_nil)))) (fun _ _ _ _ _ => pts_nil) (fun _ _ _ _ _ => (by exact (pv 5)))))))), ?_⟩
    have lv := ev.len
    generalize eN : ES.length = n at l10 k lv
    -- the start
    refine ⟨Nat.zero_le _, fun r0 nr0 => ?_⟩
    have x0 := same_new (o := .lst []) nr0
    have hr0 : upd H r0 (.lst []) r0 = some (.lst []) := upd_same
    generalize upd H r0 (.lst []) = H1 at x0 hr0 ⊢
    refine ⟨_, rfl, q, _, rfl, .inl (SqL.of (x0 _ _ hq)), _, rfl, RgOk.of_le (by omega) (by omega) (by omega) (by omega), fun L nL => ?_⟩
    have eL : rgV 0 ((es'.length : Nat) : Int) = intsV (List.range n) := by rw [lv]; exact rgV_nat _
    rw [eL]
    have x1 := same_new (o := .lst (intsV (List.range n))) nL
    have hL : upd H1 L (.lst (intsV (List.range n))) L = some (.lst (intsV (List.range n))) := upd_same
    have hr1 := x1 _ _ hr0
    generalize upd H1 L (.lst (intsV (List.range n))) = H2 at x1 hL hr1 ⊢
    refine ⟨by show 2 ≤ sizeLine; decide, fun t nt => ?_⟩
    have x2 := same_new (o := .tup [.ref r0, .ref L]) nt
    have ht : upd H2 t (.tup [.ref r0, .ref L]) t = some (.tup [.ref r0, .ref L]) := upd_same
    have hr2 := x2 _ _ hr1
    have hL2 := x2 _ _ hL
    generalize upd H2 t (.tup [.ref r0, .ref L]) = H3 at x2 ht hr2 hL2 ⊢
    refine ⟨by show 1 ≤ sizeLine; decide, fun R nR => ?_⟩
    have x3 := same_new (o := .lst [.ref t]) nR
    have hR : upd H3 R (.lst [.ref t]) R = some (.lst [.ref t]) := upd_same
    have st : RLs (upd H3 R (.lst [.ref t])) [.ref t] (turnP rows ES 0 [([], List.range n)]) := .cons ⟨t, r0, L, [], rfl, .of (x3 _ _ ht), x3 _ _ hr2, .nil, x3 _ _ hL2⟩ .nil
    have s3 := x0.trans (x1.trans (x2.trans x3))
    generalize upd H3 R (.lst [.ref t]) = H4 at x3 hR st s3 ⊢
    clear x0 hr0 x1 hL hr1 x2 ht hr2 hL2 x3
    -- the turns
    have eT : (((es'.length : Nat) : Int) + 1) / 2 = (((n + 1) / 2 : Nat) : Int) := by rw [lv]; omega
    refine ⟨_, rfl, q, _, rfl, .inl (SqL.of (s3 _ _ hq)), _, _, rfl, rfl, _, _, rfl, rfl, ⟨by decide, by decide⟩, (((n + 1) / 2 : Nat) : Int), congrArg (fun z => [V.int z]) eT, by omega, by omega, ?_⟩
    generalize eM : (n + 1) / 2 = m at k ⊢
    have em : (((m : Nat) : Int)).toNat = m := Int.toNat_natCast m
    rw [em]
    have tok := turn_ok rows ES n
    have tln := turn_len rows ES l10
    refine for_range (n := m) (fun i σ H' => ∃ R ws y3 y4 y5 y6 y7 y8 y9 y10, σ = [some (.ref ls), some (.ref q), some (.ref R), y3, y4, y5, y6, y7, y8, y9, y10] ∧ Same H H' ∧ H' R = some (.lst ws) ∧ RLs H' ws (turnP rows ES i [([], List.range n)]))
      ⟨R, _, _, _, _, _, _, _, _, _, rfl, s3, hR, st⟩ ?_ ?_
    · clear st hR s3 nR R
      rintro i σ H5 hi ⟨R, ws, y3, y4, y5, y6, y7, y8, y9, y10, rfl, s5, hR5, st5⟩
      have ts := turn_snoc rows ES i [([], List.range n)]
      have tok := tok i
      have tln1 := tln i
      have tln2 := tln (i + 1)
      rw [ts] at tln2
      generalize turnP rows ES i [([], List.range n)] = L at st5 ts tok tln1 tln2
      refine gn_go ?_
      refine ⟨Nat.zero_le _, fun D nD => ?_⟩
      have sD : Same H5 (del (upd H5 D (.lst [])) D) := same_del' nD
      have hD : upd H5 D (.lst []) D = some (.lst []) := upd_same
      have lws := st5.len
      generalize upd H5 D (.lst []) = H6 at sD hD ⊢
      have p5 : (10 : Nat) ^ (i + 1) ≤ 10 ^ 6 := Nat.pow_le_pow_right (by decide) (by omega)
      refine ⟨_, rfl, R, rfl, ⟨_, SqL.of (del_sub _ _ (sD _ _ hR5))⟩, for_list (K := K) (a := R) (xs := ws) (fun j σ H' => ∃ ws2 y3 y5 y6 y7 y8 y9 y10, σ = [some (.ref ls), some (.ref q), some (.ref R), y3, some (.ref D), y5, y6, y7, y8, y9, y10] ∧ Same H5 (del H' D) ∧ H' D = some (.lst ws2) ∧ RLs (del H' D) ws2 ((L.take j).flatMap (stepP rows ES)))
        ⟨[], _, _, _, _, _, _, _, rfl, sD, hD, .nil⟩ (fun j σ H' _ h => by obtain ⟨_, _, _, _, _, _, _, _, _, s, _⟩ := h; exact SqL.of (del_sub _ _ (s _ _ hR5))) ?_ ?_⟩
      · clear sD hD
        rintro j v σ H7 hv ⟨ws2, y3', y5', y6', y7', y8', y9', y10', rfl, s7, hD7, st7⟩
        obtain ⟨x, hx, t, r, l, vs, rfl, tq, hr, pvs, hl⟩ := paired_at (show Paired (RLp H5) ws L from st5) hv
        obtain ⟨nd, ln, lt, l1⟩ := tok x (List.mem_of_getElem? hx)
        have eA : (L.take (j + 1)).flatMap (stepP rows ES) = (L.take j).flatMap (stepP rows ES) ++ stepP rows ES x := by
          rw [take_snoc hx, List.flatMap_append, List.flatMap_cons, List.flatMap_nil, List.append_nil]
        have lnA : ((L.take (j + 1)).flatMap (stepP rows ES)).length ≤ 10 ^ 6 := by
          have sub : ((L.take (j + 1)).flatMap (stepP rows ES)).Sublist (L.flatMap (stepP rows ES)) := by
            conv => rhs; rw [← List.take_append_drop (j + 1) L]
            rw [List.flatMap_append]
            exact List.sublist_append_left _ _
          exact Nat.le_trans sub.length_le (Nat.le_trans tln2 p5)
        obtain ⟨x1, x2⟩ := x
        cases x2 with
        | nil =>
          exfalso
          have ln : 0 + 2 * i = n := ln
          omega
        | cons a rest =>
          have eS : stepP rows ES (x1, a :: rest) = (rest.filter fun b => prtB rows ES a b).map fun b => (x1 ++ [(a, b)], offN b rest) := rfl
          rw [eS] at eA
          rw [eA, List.length_append] at lnA
          obtain ⟨na, ndr⟩ := List.nodup_cons.mp nd
          have hl : H5 l = some (.lst (intsV (a :: rest))) := hl
          have lta : a < ES.length := by rw [eN]; exact lt a List.mem_cons_self
          have ltr : ∀ b ∈ rest, b < ES.length := fun b hb => by rw [eN]; exact lt b (List.mem_cons_of_mem _ hb)
          have ln : (a :: rest).length + 2 * i = n := ln
          rw [List.length_cons] at ln
          have lr : rest.length ≤ 9 := by omega
          have s57 := s7.trans (del_sub (H := H7) (p := D))
          have sH7 := s5.trans s57
          refine ⟨t, _, rfl, (tq.same s57).sq, rfl, _, _, rfl, _, _, rfl, rfl, ?_⟩
          -- the sort looked for
          obtain ⟨r0, hr0, er0⟩ := List.mem_map.mp (mem _ (List.mem_of_getElem? (endAt_of lta)))
          have er0 : r0.1 = srtA ES a := er0
          obtain ⟨zs, ez, lz, rz⟩ := dt_list (ds.same sH7)
          obtain ⟨ps, exs, pr⟩ := rows_pairs (K := K) rz
          subst exs
          refine ⟨_, rfl, ls, ps, _, rfl, SqL.of ez, pr, fun dp hdp => ?_⟩
          rw [show mergeK [] (rows.map kvOf) = rows.map kvOf from dict_is mu.nd]
          have t8 := same_new (o := .dK (rows.map kvOf)) hdp
          have hd8 : upd H7 dp (.dK (rows.map kvOf)) dp = some (.dK (rows.map kvOf)) := upd_same
          have s8 : Same H5 (del (upd H7 dp (.dK (rows.map kvOf))) D) := s7.trans (same_del t8)
          have hD8 := t8 _ _ hD7
          have st8 := st7.same (same_del t8)
          generalize upd H7 dp (.dK (rows.map kvOf)) = H8 at t8 hd8 s8 hD8 st8 ⊢
          clear s7 hD7 st7 ez rz pr t8 s57 sH7
          have s58 := s8.trans (del_sub (H := H8) (p := D))
          have sH8 := s5.trans s58
          obtain ⟨ta, wa, tqa⟩ := ends_at (ev.same sH8) (endAt_of lta)
          refine ⟨_, rfl, _, rfl, l, _, 0, .int (a : Nat), rfl, rfl, SqL.of (s58 _ _ hl), ix0, q, es', _, .ref ta, rfl, rfl, SqL.of (sH8 _ _ hq), at_of rfl wa, ta, _, 1, _, rfl, rfl, tqa.sq, ix1, ?_⟩
          refine ⟨dp, .str r0.2, rfl, ?_, ?_⟩
          · show DGet _ _ (.str (srtA ES a)) _
            rw [← er0, ← val_mut mu.nd hr0]
            exact DGet.k (k := Sum.inr r0.1) hd8
          refine gn_go ?_
          have hp : (srtA ES a, r0.2) ∈ rows := by rw [← er0]; exact hr0
          have pb : ∀ b, prtB rows ES a b = decide (srtA ES b = r0.2) := fun b => by
            unfold prtB
            by_cases c : srtA ES b = r0.2
            · rw [c, decide_eq_true hp, decide_eq_true rfl]
            · rw [decide_eq_false c, decide_eq_false fun q => c ?_]
              exact congrArg (·.2) (mu.one q hp rfl)
          clear wa tqa hd8
          have lri : (intsV rest).length = rest.length := List.length_map _
          have eTl : cutV (intsV (a :: rest)) (some 1) none = intsV rest := by
            rw [cut_tail]
            rfl
          refine ⟨_, rfl, 1, rfl, l, _, rfl, SqL.of (s58 _ _ hl), fun U nU => ?_⟩
          rw [eTl]
          have t9 := same_new (o := .lst (intsV rest)) nU
          have nUD : U ≠ D := fun z => by rw [z, hD8] at nU; cases nU
          have hU9 : del (upd H8 U (.lst (intsV rest))) D U = some (.lst (intsV rest)) := by
            unfold L2.del
            rw [if_neg nUD]
            exact upd_same
          have s9 : Same H5 (del (upd H8 U (.lst (intsV rest))) D) := s8.trans (same_del t9)
          have hD9 := t9 _ _ hD8
          have st9 := st8.same (same_del t9)
          generalize upd H8 U (.lst (intsV rest)) = H9 at t9 hU9 s9 hD9 st9 ⊢
          clear s8 hD8 st8 t9 s58 sH8
          refine ⟨U, rfl, ⟨_, SqL.of (del_sub _ _ hU9)⟩, for_list (K := K) (a := U) (xs := intsV rest) (fun k σ H' => ∃ ws3 y8 y9 y10, σ = [some (.ref ls), some (.ref q), some (.ref R), y3', some (.ref D), some (.ref r), some (.ref l), some (.str r0.2), y8, y9, y10] ∧ Same (del H9 D) (del H' D) ∧ H' D = some (.lst ws3) ∧ RLs (del H' D) ws3 ((L.take j).flatMap (stepP rows ES) ++ ((rest.take k).filter fun b => prtB rows ES a b).map fun b => (x1 ++ [(a, b)], offN b rest)))
            ⟨ws2, _, _, _, rfl, Same.refl _, hD9, by rw [List.take_zero, List.filter_nil, List.map_nil, List.append_nil]; exact st9⟩ (fun k σ H' _ h => by obtain ⟨_, _, _, _, _, s, _⟩ := h; exact SqL.of (del_sub _ _ (s _ _ hU9))) ?_ ?_⟩
          · rintro k v σ H10 hv ⟨ws3, y8, y9, y10, rfl, s10, hD10, st10⟩
            obtain ⟨b, hb, rfl⟩ := ints_at hv
            have hbm := List.mem_of_getElem? hb
            have ltb := ltr b hbm
            have s510 := (s9.trans s10).trans (del_sub (H := H10) (p := D))
            have sH10 := s5.trans s510
            obtain ⟨tb, wb, tqb⟩ := ends_at (ev.same sH10) (endAt_of ltb)
            have eI : ((rest.take (k + 1)).filter fun b => prtB rows ES a b) = ((rest.take k).filter fun b => prtB rows ES a b) ++ (if srtA ES b = r0.2 then [b] else []) := by
              rw [take_snoc hb, List.filter_append]
              congr 1
              by_cases z : srtA ES b = r0.2
              · rw [if_pos z, List.filter_cons_of_pos (by rw [pb b]; exact decide_eq_true z)]
                rfl
              · rw [if_neg z, List.filter_cons_of_neg (by rw [pb b, decide_eq_false z]; exact Bool.false_ne_true)]
                rfl
            have lst3 : ws3.length ≤ 10 ^ 6 := by
              rw [st10.len, List.length_append, List.length_map]
              have sub : ((rest.take k).filter fun b => prtB rows ES a b).length ≤ (rest.filter fun b => prtB rows ES a b).length := ((List.take_sublist k rest).filter _).length_le
              rw [List.length_map] at lnA
              omega
            refine gn_go ?_
            refine ⟨_, rfl, _, rfl, q, es', _, .ref tb, rfl, rfl, SqL.of (sH10 _ _ hq), at_of rfl wb, tb, _, 1, _, rfl, rfl, tqb.sq, ix1, _, rfl, rfl, _, rfl, ite2 (fun cc => ?_) (fun cc => ?_)⟩
            · have ceq : srtA ES b = r0.2 := by
                have z := of_decide_eq_true cc
                injection z
              rw [if_pos ceq] at eI
              refine ⟨_, rfl, 1, rfl, l, _, rfl, SqL.of (s510 _ _ hl), fun U2 nU2 => ?_⟩
              rw [eTl]
              have t11 := same_new (o := .lst (intsV rest)) nU2
              have nU2D : U2 ≠ D := fun z => by rw [z, hD10] at nU2; cases nU2
              have hU11 : upd H10 U2 (.lst (intsV rest)) U2 = some (.lst (intsV rest)) := upd_same
              have s11 := s10.trans (same_del t11)
              have hD11 := t11 _ _ hD10
              have st11 := st10.same (same_del t11)
              generalize upd H10 U2 (.lst (intsV rest)) = H11 at t11 hU11 s11 hD11 st11 ⊢
              have hD11' := hD11
              refine ⟨U2, rfl, ⟨_, SqL.of hU11⟩, fun D3 nD3 => ?_⟩
              refine lc_it (walk_list (K := K) (a := U2) (xs := intsV rest)) (fun z H' => Same H11 (del H' D3) ∧ H' D3 = some (.lst (intsV (offN b (rest.take z))))) ⟨same_del' nD3, upd_same⟩ (fun z H' _ h => SqL.of (del_sub _ _ (h.1 _ _ hU11))) ?_ ?_
              · rintro z x0 H12 H12' hz ⟨s12, hU12⟩ ⟨rfl, hx0⟩
                obtain ⟨c, hc, rfl⟩ := ints_at hx0
                have lo : (offN b (rest.take z)).length ≤ 9 := Nat.le_trans (List.length_filter_le _ _) (by rw [List.length_take]; omega)
                have eO : offN b (rest.take (z + 1)) = offN b (rest.take z) ++ (if c ≠ b then [c] else []) := by
                  unfold offN
                  rw [take_snoc hc, List.filter_append]
                  congr 1
                  by_cases y : c ≠ b
                  · rw [if_pos y, List.filter_cons_of_pos (by simpa using y)]
                    rfl
                  · rw [if_neg y, List.filter_cons_of_neg (by simpa using y)]
                    rfl
                refine ⟨rfl, _, rfl, _, rfl, rfl, _, rfl, ?_⟩
                refine ite2 (fun y => ?_) (fun y => ?_)
                · have cb : c ≠ b := fun w => by
                    rw [w] at y
                    simp at y
                  rw [if_pos cb] at eO
                  refine ⟨_, rfl, _, hU12, small1000 (by unfold intsV; rw [List.length_map]; omega), s12.trans del_upd_same, ?_⟩
                  rw [upd_same, eO]
                  unfold intsV
                  rw [List.map_append]
                  rfl
                · have cb : ¬ c ≠ b := fun w => y (by
                    have w2 : ¬ ((c : Int) = (b : Int)) := fun e => w (by omega)
                    simp [w2])
                  rw [if_neg cb, List.append_nil] at eO
                  exact ⟨s12, by rw [eO]; exact hU12⟩
              rintro H12 ⟨s12, hU12⟩
              rw [lri, List.take_of_length_le (Nat.le_refl _)] at hU12
              have s12' := s12.trans (del_sub (H := H12) (p := D3))
              have sB := s11.trans (same_del s12')
              have hD12 := s12' _ _ hD11
              have st12 := st11.same (same_del s12')
              have s512 := (s9.trans sB).trans (del_sub (H := H12) (p := D))
              clear s12 s11 hD11 st11 hU11 t11 s10 hD10 st10 s510 sH10
              refine gn_go ?_
              refine ⟨_, rfl, .inl ⟨rfl, _, SqL.of hD12⟩, ?_⟩
              have hrr := s512 _ _ hr
              have pv12 := pvs.same s512
              have lvs : vs.length ≤ 5 := by rw [pvs.len, l1]; omega
              refine ⟨_, rfl, _, rfl, l, _, 0, .int (a : Nat), rfl, rfl, SqL.of (s512 _ _ hl), ix0, _, rfl, by show 2 ≤ sizeLine; decide, fun T1 nT1 => ?_⟩
              have t13 := same_new (o := .tup [.int (a : Nat), .int (b : Nat)]) nT1
              have hT1 : upd H12 T1 (.tup [.int (a : Nat), .int (b : Nat)]) T1 = some (.tup [.int (a : Nat), .int (b : Nat)]) := upd_same
              have s13 := t13
              generalize upd H12 T1 (.tup [.int (a : Nat), .int (b : Nat)]) = H13 at t13 hT1 s13 ⊢
              refine ⟨by show 1 ≤ sizeLine; decide, fun L1 nL1 => ?_⟩
              have t14 := same_new (o := .lst [.ref T1]) nL1
              have hL1 : upd H13 L1 (.lst [.ref T1]) L1 = some (.lst [.ref T1]) := upd_same
              have hT1 := t14 _ _ hT1
              have s14 := s13.trans t14
              generalize upd H13 L1 (.lst [.ref T1]) = H14 at t14 hL1 hT1 s14 ⊢
              refine ⟨r, L1, _, _, rfl, rfl, s14 _ _ hrr, hL1, by rw [sizeLine_eq]; show vs.length + 1 ≤ 16777216; omega, fun RW nRW => ?_⟩
              have t15 := same_new (o := .lst (vs ++ [.ref T1])) nRW
              have hRW : upd H14 RW (.lst (vs ++ [.ref T1])) RW = some (.lst (vs ++ [.ref T1])) := upd_same
              have hT1 := t15 _ _ hT1
              have s15 := s14.trans t15
              generalize upd H14 RW (.lst (vs ++ [.ref T1])) = H15 at t15 hRW hT1 s15 ⊢
              refine ⟨_, rfl, by show 2 ≤ sizeLine; decide, fun TT nTT => ?_⟩
              have t16 := same_new (o := .tup [.ref RW, .ref D3]) nTT
              have hTT : upd H15 TT (.tup [.ref RW, .ref D3]) TT = some (.tup [.ref RW, .ref D3]) := upd_same
              have hT1 := t16 _ _ hT1
              have hRW := t16 _ _ hRW
              have s16 := s15.trans t16
              have hU16 := s16 _ _ hU12
              have hD16 := s16 _ _ hD12
              have st16 := st12.same (same_del s16)
              have pv16 := pv12.same s16
              have sB16 := sB.trans (same_del s16)
              generalize upd H15 TT (.tup [.ref RW, .ref D3]) = H16 at hTT hT1 hRW hU16 hD16 st16 pv16 sB16 ⊢
              have nTD : TT ≠ D := fun z => by rw [z, hD16] at hTT; cases hTT
              have nRD : RW ≠ D := fun z => by
                have q := (s14 _ _ hD12)
                rw [← z, nRW] at q
                cases q
              have n1D : T1 ≠ D := fun z => by rw [z, hD16] at hT1; cases hT1
              have n3D : D3 ≠ D := fun z => by
                rw [z, hD11'] at nD3
                cases nD3
              refine ⟨D, _, _, rfl, rfl, hD16, by rw [sizeLine_eq]; omega, ?_⟩
              refine ⟨ws3 ++ [.ref TT], _, _, _, rfl, sB16.trans del_upd_same, upd_same, ?_⟩
              have oD : Off D H16 (del (upd H16 D (.lst (ws3 ++ [.ref TT]))) D) := fun b o e nb => by
                unfold L2.del
                rw [if_neg nb, upd_ne nb]
                exact e
              rw [eI, List.map_append, ← List.append_assoc]
              refine (st16.same del_upd_same).app (.cons ⟨TT, RW, D3, vs ++ [.ref T1], rfl, .of (oD _ _ hTT nTD), oD _ _ hRW nRD, ?_, oD _ _ hU16 n3D⟩ .nil)
              exact paired_snoc (pv16.offL oD hD16) ⟨T1, rfl, .of (oD _ _ hT1 n1D)⟩
            · have cne : ¬ srtA ES b = r0.2 := fun z => cc (decide_eq_true (congrArg V.str z))
              rw [if_neg cne, List.append_nil] at eI
              exact ⟨ws3, _, _, _, rfl, s10, hD10, by rw [eI]; exact st10⟩
          · rintro σ H10 ⟨ws3, y8, y9, y10, rfl, s10, hD10, st10⟩
            rw [lri, List.take_of_length_le (Nat.le_refl _)] at st10
            exact ⟨ws3, _, _, _, _, _, _, _, rfl, s9.trans s10, hD10, by rw [eA]; exact st10⟩
      · rintro σ H7 ⟨ws2, y3', y5', y6', y7', y8', y9', y10', rfl, s7, hD7, st7⟩
        rw [lws, List.take_of_length_le (Nat.le_refl _)] at st7
        refine ⟨_, rfl, D, ws2, _, _, _, _, _, _, _, _, rfl, s5.trans (s7.trans del_sub), hD7, ?_⟩
        rw [ts]
        exact st7.same del_sub
    · rintro σ H5 ⟨R, ws, y3, y4, y5, y6, y7, y8, y9, y10, rfl, s5, hR5, st5⟩
      refine ⟨_, rfl, R, rfl, ⟨_, SqL.of hR5⟩, fun D nD => ?_⟩
      have lws := st5.len
      have lT := tln m
      have p5 : (10 : Nat) ^ m ≤ 10 ^ 6 := Nat.pow_le_pow_right (by decide) (by omega)
      refine lc_it (walk_list (K := K) (a := R) (xs := ws)) (fun j H' => Same H5 (del H' D) ∧ ∃ rs : List Addr, H' D = some (.lst (rs.map V.ref)) ∧ RowsP H5 rs (((turnP rows ES m [([], List.range n)]).take j).map (·.1))) ⟨same_del' nD, [], upd_same, .nil⟩ (fun j H' _ h => SqL.of (del_sub _ _ (h.1 _ _ hR5))) ?_ ?_
      · rintro j x0 H6 H7 hj ⟨s6, rs, hD6, rp⟩ ⟨rfl, hx⟩
        obtain ⟨x, hx2, t, r, l, vs, rfl, tq, hr, pvs, hl⟩ := paired_at (show Paired (RLp H5) ws _ from st5) hx
        have s7 := s6.trans (del_sub (H := H7) (p := D))
        refine ⟨t, _, rfl, (tq.same s7).sq, rfl, _, _, rfl, _, _, rfl, rfl, ?_⟩
        refine ⟨rfl, ?_⟩
        delta tYes
        dsimp only
        rw [if_pos rfl]
        have lrs : rs.length ≤ 10 ^ 6 := by
          rw [rp.len, List.length_map, List.length_take]
          omega
        refine ⟨_, rfl, _, hD6, by rw [List.length_map, sizeLine_eq]; omega, s6.trans del_upd_same, rs ++ [r], by rw [upd_same, List.map_append]; rfl, ?_⟩
        rw [take_snoc hx2, List.map_append]
        exact rp.app (.cons ⟨vs, hr, pvs⟩ .nil)
      · rintro H6 ⟨s6, rs, hD6, rp⟩
        rw [lws, List.take_of_length_le (Nat.le_refl _)] at rp
        have s7 := s6.trans (del_sub (H := H6) (p := D))
        exact k D rs H6 (s5.trans s7) hD6 (rp.same s7)
end
end Toy
set_option Elab.async false
set_option linter.all false
set_option maxRecDepth 100000
set_option maxHeartbeats 4000000
namespace Toy
open PySem PySem.Spec PyProof.Rows L2
theorem lst_off {H H' : Hp} {p a : Addr} {xs : List V} (h : H a = some (.lst xs)) (o : Off p H H') (n : a ≠ p) : H' a = some (.lst xs) := o _ _ h n
theorem rows_src {H : Hp} {p a : Addr} {n : Nat} {rows : Rows2} (hp : SrcAt H p n) (h : Dt H (.ref a) (.list (rows.map rowT))) : a ≠ p := by
  obtain ⟨xs, e, l, r⟩ := dt_list h
  refine lst_src hp e fun x q => ?_
  cases rows with
  | nil =>
    cases r
    cases q
  | cons r0 rows =>
    cases r with
    | cons h1 _ =>
      have q2 := Option.some.inj q
      subst q2
      generalize ek : rowT r0 = d at h1
      cases h1
      cases ek
def LastOk (x : Str) : Prop := ∃ c ∈ lastsC, x.cps.toList.getLast? = some c
theorem Words.last {xs : List Str} {m : Nat} (h : Words xs m) : ∀ x ∈ xs, LastOk x := by
  have key : ∀ {xs : List Str} {cs : List Nat}, Paired Made xs cs → (∀ c ∈ cs, c ∈ lastsC) → ∀ x ∈ xs, LastOk x := by
    intro xs cs r
    induction r with
    | nil => exact fun _ x z => nomatch z
    | @cons y d ys ds hy _ ih =>
      intro hc x z
      rcases List.mem_cons.mp z with e | z
      · rw [e]
        obtain ⟨w, e3, _⟩ := hy
        refine ⟨d, hc d List.mem_cons_self, ?_⟩
        rw [e3, app_cps, Array.toList_append]
        exact List.getLast?_concat
      · exact ih (fun c hcm => hc c (List.mem_cons_of_mem _ hcm)) x z
  exact key h.pr fun c hc => List.mem_of_mem_take hc
theorem zip_fst_take : ∀ (xs ys : List Str), (xs.zip ys).map (·.1) = xs.take (min xs.length ys.length)
  | [], ys => by simp
  | x :: xs, [] => by simp
  | x :: xs, y :: ys => by
    rw [List.zip_cons_cons, List.map_cons, zip_fst_take xs ys, List.length_cons, List.length_cons, Nat.succ_min_succ]
    rfl
def menuX : List V := [.int 0, .int 0, .int 1, .int 2]
def spGrounds : Sp := fun vs H Q _ => ∃ (p ls lk : Addr) (most : Nat) (far : Int) (n : Nat) (rows : Rows2) (ks : List KRow) (ws : List V), vs = [.ref p, .ref ls, .ref lk, .int (most : Int), .int far] ∧ SrcAt H p n ∧ n ≤ 5000 ∧ most ≤ 6 ∧ Dt H (.ref ls) (.list (rows.map rowT)) ∧ GoodS rows ∧ Mut rows ∧ H lk = some (.lst ws) ∧ Paired (KndP H) ws ks ∧ GoodK (rows.map (·.1)) ks ∧ 1 ≤ ks.length ∧ ks.length ≤ 4 ∧
  ∀ (t c g : Addr) (cs : List Str) (lg : Rows2) (H' : Hp), cs.length ≤ most → (∀ x ∈ cs, x ∈ ks.map (·.1)) → LegsG rows lg → (∀ g ∈ lg, LastOk g.1) → Bal rows (sortsE ks cs lg) → (0 ≤ far → (((sortsE ks cs lg).length : Nat) : Int) ≤ far) → H' t = some (.tup [.ref c, .ref g]) → t ≠ p → H' c = some (.lst (cs.map V.str)) → c ≠ p → Dt H' (.ref g) (.list (lg.map rowT)) → g ≠ p → SrcAt H' p (n + 100) → Off p H H' → Q (.ref t) H'
section
variable {P : Program} {w : World} {K : PySem.W.Frag} {mg : Str → Option Value} {base : Heap}
abbrev gdN : List Str := ["_law_state_here", "_law_sorts", "_law_kinds", "_law_most", "_law_far", "_law_corners", "_law_k", "_law_extra", "_law_words_here", "_law_turn", "_law_some", "_law_place", "_law_sort", "_law_wished"]
theorem scGrounds : FnScope gdN ["_law_state_here", "_law_sorts", "_law_kinds", "_law_most", "_law_far"] (defScope sGrounds) := ⟨rfl, rfl, rfl, by decide +kernel, rfl, by decide +kernel, by decide +kernel⟩
theorem ok_grounds {f fN fW fT fD : Addr} {fd fdN fdW fdT fdD : FuncData} (F : Fun K "_law_grounds" "_law_grounds" sGrounds f fd) (M : Mods mg)
    (GN : FnOk P w K mg base CX0 1 fN fdN ["_law_state_here", "_law_many"] spPick) (kN : PySem.W.keepIn K (.ref fN) = true) (bN : Binds K fdN ["_law_state_here", "_law_many"] []) (gN : mg "_law_pick" = some (.ref fN))
    (GW : FnOk P w K mg base CX0 2 fW fdW ["_law_state_here", "_law_many"] spWords) (kW : PySem.W.keepIn K (.ref fW) = true) (bW : Binds K fdW ["_law_state_here", "_law_many"] []) (gW : mg "_law_words" = some (.ref fW))
    (GT : FnOk P w K mg base CX0 1 fT fdT ["_law_kinds", "_law_corners", "_law_legs"] spThere) (kT : PySem.W.keepIn K (.ref fT) = true) (bT : Binds K fdT ["_law_kinds", "_law_corners", "_law_legs"] []) (gT : mg "_law_there" = some (.ref fT))
    (GD : FnOk P w K mg base CX0 1 fD fdD ["_law_sorts", "_law_some"] spWanted) (kD : PySem.W.keepIn K (.ref fD) = true) (bD : Binds K fdD ["_law_sorts", "_law_some"] []) (gD : mg "_law_wanted" = some (.ref fD))
    (mR : mg "range" = none) (mZ : mg "zip" = none) :
    FnOk P w K mg base CX0 3 f fd ["_law_state_here", "_law_sorts", "_law_kinds", "_law_most", "_law_far"] spGrounds := by
  refine F.ok scGrounds (fun vs H Q E h => ?_) (fun cdv A outer s H vs Q E hr h => ?_)
  · obtain ⟨p, ls, lk, most, far, n, rows, ks, ws, rfl, _⟩ := h
    rfl
  · obtain ⟨p, ls, lk, most, far, n, rows, ks, ws, rfl, hp, hn, m6, ds, gd, mu, hw, kn, gk, l1k, l4k, k⟩ := h
    have hr1 : Room 1 (A.deeper (envOfC "_law_grounds" (defScope sGrounds) s.heap.objs.size f cdv)) := hr.mono (by decide)
    obtain ⟨g1, g3, gN_, gnd, gmu⟩ := good_rows gd
    refine ⟨_, (pss_cons (ps_setLc (i := 5) (own := [("_law_k", 6)]) (g := gName 6) (tt := tYes) (te := (tOp (rIxT K) (tOp (rIxL K) (tVar 2) (tCall spPick [] E0 (tCons (tVar 0) (tCons (tCB (rLen K) (tCons (tVar 2) tNil)) tNil)))) (tC (.int 0)))) rfl scGrounds.nd rfl rfl (sw_true rfl rfl rfl (by decide +kernel)) (pi_range1 (by rfl) mR (pa_cons (pe_call GN hr1 (by rfl) gN kN bN .nil pass0 (pa_cons (pv 0) (pa_cons (pe_op op_add (pv 3) pe_int) pa_nil))) pa_nil)) (blkOk_by (N := gdN) (sc := defScope sGrounds) (by decide +kernel)) (fun _ _ _ _ _ => pg_name (i := 6) scGrounds.nd rfl (Or.inl rfl)) (fun _ _ _ _ _ => pts_nil) (fun _ _ _ _ _ => (by exact (pe_ix ix_tup (pe_ix ix_list (pv 2) (pe_call GN hr1 (by rfl) gN kN bN .nil pass0 (pa_cons (pv 0) (pa_cons (pe_callB call_len_seq (by rfl) M.len PySem.boot_len (pa_cons (pv 2) pa_nil)) pa_nil))) (fun _ _ => rfl)) pe_int (fun _ _ => rfl)))))
      (pss_cons (ps_setLc (i := 7) (own := [("_law_k", 6)]) (g := gName 6) (tt := tYes) (te := (tOp (rIxT K) (tOp (rIxL K) (tVar 1) (tCall spPick [] E0 (tCons (tVar 0) (tCons (tCB (rLen K) (tCons (tVar 1) tNil)) tNil)))) (tC (.int 0)))) rfl scGrounds.nd rfl rfl (sw_true rfl rfl rfl (by decide +kernel)) (pi_range1 (by rfl) mR (pa_cons (pe_ix ix_list (pe_lst (pa_cons pe_int (pa_cons pe_int (pa_cons pe_int (pa_cons pe_int pa_nil))))) (pe_call GN hr1 (by rfl) gN kN bN .nil pass0 (pa_cons (pv 0) (pa_cons pe_int pa_nil))) (fun _ _ => rfl)) pa_nil)) (blkOk_by (N := gdN) (sc := defScope sGrounds) (by decide +kernel)) (fun _ _ _ _ _ => pg_name (i := 6) scGrounds.nd rfl (Or.inl rfl)) (fun _ _ _ _ _ => pts_nil) (fun _ _ _ _ _ => (by exact (pe_ix ix_tup (pe_ix ix_list (pv 1) (pe_call GN hr1 (by rfl) gN kN bN .nil pass0 (pa_cons (pv 0) (pa_cons (pe_callB call_len_seq (by rfl) M.len PySem.boot_len (pa_cons (pv 1) pa_nil)) pa_nil))) (fun _ _ => rfl)) pe_int (fun _ _ => rfl)))))
      (pss_cons (ps_set (i := 8) scGrounds.nd rfl (Or.inl rfl) (pe_call GW hr (by rfl) gW kW bW .nil pass0 (pa_cons (pv 0) (pa_cons pe_int pa_nil))))
      (pss_cons (ps_for PassesOwn.never rfl (pi_range1 (by rfl) mR (pa_cons (pe_op op_add (pv 3) pe_int) pa_nil)) (pg_name (i := 9) scGrounds.nd rfl (Or.inl rfl)) (pss_cons (ps_set (i := 10) scGrounds.nd rfl (Or.inl rfl) (pe_op op_cat (pv 7) (pe_lc (own := [("_law_place", 11), ("_law_sort", 12)]) (g := gTup K 2 (gCons (gName 11) (gCons (gName 12) gNil))) (tt := tYes) (te := (tVar 12)) rfl scGrounds.nd (pi_list (pe_call GT hr1 (by rfl) gT kT bT .nil pass0 (pa_cons (pv 2) (pa_cons (pv 5) (pa_cons (pe_lst pa_nil) pa_nil))))) (blkOk_by (N := gdN) (sc := defScope sGrounds) (by decide +kernel)) (fun _ _ _ _ _ => (pg_tup rfl (pgs_cons (pg_name (i := 11) scGrounds.nd rfl (Or.inl rfl)) (pgs_cons (pg_name (i := 12) scGrounds.nd rfl (Or.inl rfl)) pgs_nil)))) (fun _ _ _ _ _ => pts_nil) (fun _ _ _ _ _ => (by exact (pv 12))))))
      (pss_cons (ps_set (i := 13) scGrounds.nd rfl (Or.inl rfl) (pe_op op_cat (pv 7) (pe_call GD hr1 (by rfl) gD kD bD .nil pass0 (pa_cons (pv 1) (pa_cons (pv 10) pa_nil)))))
      (pss_cons (ps_if (PW.pt (pw_and (pt_cmpR op_le (pe_callB call_len_seq (by rfl) M.len PySem.boot_len (pa_cons (pv 13) pa_nil)) pe_int (nomark _)) (pw_and1 (pt_cmpR op_le (pe_op op_sub (pe_op op_add (pe_callB call_len_seq (by rfl) M.len PySem.boot_len (pa_cons (pv 10) pa_nil)) (pe_callB call_len_seq (by rfl) M.len PySem.boot_len (pa_cons (pv 13) pa_nil))) (pe_callB call_len_seq (by rfl) M.len PySem.boot_len (pa_cons (pv 7) pa_nil))) (pv 4) (nomark _))))) (pss_one (ps_ret (pe_tup (pa_cons (pv 5) (pa_cons (pe_callB (cr_sortD hr.units) (by rfl) M.srt (by decide +kernel) (pa_cons (pe_listzip rfl (by rfl) M.lst_ (by rfl) mZ (pa_cons (pv 8) (pa_cons (pv 13) pa_nil))) pa_nil)) pa_nil))))) pss_nil)
      (pss_one (ps_set (i := 5) scGrounds.nd rfl (Or.inl rfl) (pe_slice sl_list (pv 5) po_none (po_some (pe_un un_neg pe_int)))))))))
      (pss_one (ps_ret (pe_tup (pa_cons (pe_lst pa_nil) (pa_cons (pe_lst pa_nil) pa_nil))))))))), ?_⟩
    have nlk := knds_src hp hw kn
    have nls := rows_src hp ds
    refine ⟨_, rfl, _, rfl, _, _, rfl, rfl, p, ((most : Int) + 1), n, rfl, hp, by omega, by omega, by omega, fun r H1 r0 r1 hp1 o1 => ?_⟩
    obtain ⟨m, rfl⟩ := Int.eq_ofNat_of_zero_le r0
    have ds1 := ds.off hp (noInt_rows rows) o1
    have hw1 := o1 _ _ hw nlk
    have kn1 := knds_off hp kn o1
    refine ⟨_, rfl, by omega, by omega, fun D nD => ?_⟩
    have em : ((m : Int)).toNat = m := Int.toNat_natCast m
    rw [em]
    have nDp := hp1.ne nD
    have D0 : H D = none := o1.free hp1 nD
    have lws : ws.length = ks.length := kn1.length
    refine lc_range (lo := 0) (n := m) (fun j H' => Off p H1 H' ∧ SrcAt H' p (n + 1 + j) ∧ ∃ es : List Str, H' D = some (.lst (es.map V.str)) ∧ es.length = j ∧ ∀ x ∈ es, x ∈ ks.map (·.1)) ⟨Same.off (same_new nD), (hp1.same (same_new nD)), [], upd_same, rfl, fun _ z => nomatch z⟩ ?_ ?_
    · rintro j H12 hj ⟨o12, hp12, es, hD12, le, hes⟩
      refine ⟨rfl, ?_⟩
      show tOp (rIxT K) (tOp (rIxL K) (tVar 2) (tCall spPick [] E0 (tCons (tVar 0) (tCons (tCB (rLen K) (tCons (tVar 2) tNil)) tNil)))) (tC (.int 0)) _ _ _
      have hw12 := o12 _ _ hw1 nlk
      refine ⟨_, rfl, _, rfl, _, rfl, lk, ws, rfl, .inl (SqL.of hw12), p, (ws.length : Int), _, rfl, hp12, by omega, by omega, by omega, fun y H13 y0 y1 hp13 o13 => ?_⟩
      obtain ⟨y, rfl⟩ := Int.eq_ofNat_of_zero_le y0
      have hy : y < ws.length := by omega
      have kn13 := knds_off hp1 kn1 (o12.trans o13)
      obtain ⟨kr, hkr, q, tt, eqv, tq, _⟩ := paired_at kn13 (List.getElem?_eq_getElem hy)
      refine ⟨lk, ws, _, .ref q, rfl, rfl, SqL.of (o13 _ _ hw12 nlk), at_of rfl (by rw [List.getElem?_eq_getElem hy, eqv]), ?_⟩
      refine ⟨q, _, 0, _, rfl, rfl, tq.sq, ix0, ?_⟩
      have hD13 := o13 _ _ hD12 nDp
      refine ⟨_, hD13, ?_, (o12.trans o13).upd0 nD, ((hp13.upd nDp).mono (by omega)), es ++ [kr.1], ?_, ?_, ?_⟩
      · rw [List.length_map]
        exact small1000 (by omega)
      · rw [upd_same, List.map_append]
        rfl
      · rw [List.length_append, le]
        rfl
      · intro x hx
        rcases List.mem_append.mp hx with h | h
        · exact hes x h
        · rw [List.mem_singleton.mp h]
          exact List.mem_map_of_mem (f := (·.1)) (List.mem_of_getElem? hkr)
    · rintro H2 ⟨o2, hp2, cs0, hD2, lcs, hcs0⟩
      have ds2 := ds1.off hp1 (noInt_rows rows) o2
      have hw2 := o2 _ _ hw1 nlk
      have kn2 := knds_off hp1 kn1 o2
      have oA := o1.trans o2
      refine ⟨by show 4 ≤ sizeLine; decide, fun u nu => ?_⟩
      have t3 := same_new (o := .lst menuX) nu
      have hu : upd H2 u (.lst menuX) u = some (.lst menuX) := upd_same
      have nup := hp2.ne nu
      refine ⟨_, rfl, p, 4, _, rfl, hp2.same t3, by decide, by decide, by omega, fun r5 H3 r50 r51 hp3 o3 => ?_⟩
      have hu3 := o3 _ _ hu nup
      obtain ⟨r5, rfl⟩ := Int.eq_ofNat_of_zero_le r50
      obtain ⟨r6, hr6, hr61⟩ : ∃ r6 : Nat, menuX[r5]? = some (.int (r6 : Int)) ∧ r6 ≤ 2 := by
        have h5 : r5 < 4 := by omega
        match r5, h5 with
        | 0, _ => exact ⟨0, rfl, by decide⟩
        | 1, _ => exact ⟨0, rfl, by decide⟩
        | 2, _ => exact ⟨1, rfl, by decide⟩
        | 3, _ => exact ⟨2, rfl, by decide⟩
      refine ⟨u, _, _, _, rfl, rfl, SqL.of hu3, at_of rfl hr6, ?_⟩
      have o23 := (Same.off (p := p) t3).trans o3
      have ds3 := ds2.off hp2 (noInt_rows rows) o23
      have hw3 := o23 _ _ hw2 nlk
      have kn3 := knds_off hp2 kn2 o23
      have hD3 := o23 _ _ hD2 nDp
      have oB := oA.trans o23
      refine ⟨(r6 : Int), rfl, by omega, by omega, fun E2 nE => ?_⟩
      have em2 : ((r6 : Int)).toNat = r6 := Int.toNat_natCast r6
      rw [em2]
      have nEp := hp3.ne nE
      refine lc_range (lo := 0) (n := r6) (fun j H' => Off p H3 H' ∧ SrcAt H' p (n + 1 + m + 1 + j) ∧ ∃ es : List Str, H' E2 = some (.lst (es.map V.str)) ∧ es.length = j ∧ ∀ x ∈ es, x ∈ rows.map (·.1)) ⟨Same.off (same_new nE), (hp3.same (same_new nE)), [], upd_same, rfl, fun _ z => nomatch z⟩ ?_ ?_
      · rintro j H12 hj ⟨o12, hp12, es, hE12, le, hes⟩
        refine ⟨rfl, ?_⟩
        show tOp (rIxT K) (tOp (rIxL K) (tVar 1) (tCall spPick [] E0 (tCons (tVar 0) (tCons (tCB (rLen K) (tCons (tVar 1) tNil)) tNil)))) (tC (.int 0)) _ _ _
        have ds12 := ds3.off hp3 (noInt_rows rows) o12
        obtain ⟨zs, ez, lz, rz⟩ := dt_list ds12
        have lenz : zs.length = rows.length := by rw [rz.len, List.length_map]
        refine ⟨_, rfl, _, rfl, _, rfl, ls, zs, rfl, .inl (SqL.of ez), p, (zs.length : Int), _, rfl, hp12, by omega, by omega, by omega, fun y H13 y0 y1 hp13 o13 => ?_⟩
        obtain ⟨y, rfl⟩ := Int.eq_ofNat_of_zero_le y0
        have hy : y < zs.length := by omega
        obtain ⟨q, rr, hr_, eqv, tq⟩ := row_mem rz (List.getElem_mem hy)
        refine ⟨ls, zs, _, .ref q, rfl, rfl, SqL.of (o13 _ _ ez nls), at_of rfl (by rw [List.getElem?_eq_getElem hy, eqv]), ?_⟩
        refine ⟨q, _, 0, _, rfl, rfl, (tq.off o13 (TupAt.src hp12 tq)).sq, ix0, ?_⟩
        have hE13 := o13 _ _ hE12 nEp
        refine ⟨_, hE13, ?_, (o12.trans o13).upd0 nE, ((hp13.upd nEp).mono (by omega)), es ++ [rr.1], ?_, ?_, ?_⟩
        · rw [List.length_map]
          exact small1000 (by omega)
        · rw [upd_same, List.map_append]
          rfl
        · rw [List.length_append, le]
          rfl
        · intro x hx
          rcases List.mem_append.mp hx with h | h
          · exact hes x h
          · rw [List.mem_singleton.mp h]
            exact List.mem_map_of_mem (f := (·.1)) hr_
      · rintro H4 ⟨o4, hp4, xe, hE4, lxe, hxe⟩
        have ds4 := ds3.off hp3 (noInt_rows rows) o4
        have hw4 := o4 _ _ hw3 nlk
        have kn4 := knds_off hp3 kn3 o4
        have hD4 := o4 _ _ hD3 nDp
        have oC := oB.trans o4
        refine ⟨_, rfl, p, 6, _, rfl, hp4, by omega, by decide, fun lw nms H5 l6w hnm lw0 hlw hp5 o5 => ?_⟩
        have ds5 := ds4.off hp4 (noInt_rows rows) o5
        have hw5 := o5 _ _ hw4 nlk
        have kn5 := knds_off hp4 kn4 o5
        have hD5 := o5 _ _ hD4 nDp
        have hE5 := o5 _ _ hE4 nEp
        have oD := oC.trans o5
        have nlwp : lw ≠ p := hp4.ne lw0
        clear ds ds1 ds2 ds3 ds4 hw hw1 hw2 hw3 hw4 kn kn1 kn2 kn3 kn4 hD2 hD3 hD4 hE4 o1 o2 o3 o4 o5 oA oB oC o23 t3 hu hu3 hp hp1 hp2 hp3 hp4
        refine ⟨_, rfl, _, _, rfl, rfl, ((most : Int) + 1), rfl, by omega, by omega, ?_⟩
        have em3 : ((most : Int) + 1).toNat = most + 1 := by omega
        rw [em3]
        refine for_range (n := most + 1) (fun i σ H' => (∃ y6 y9 y10 y11 y12 y13 c cs, σ = [some (.ref p), some (.ref ls), some (.ref lk), some (.int (most : Int)), some (.int far), some (.ref c), y6, some (.ref E2), some (.ref lw), y9, y10, y11, y12, y13] ∧ H' c = some (.lst (List.map V.str cs)) ∧ c ≠ p ∧ cs.length ≤ most ∧ ∀ x ∈ cs, x ∈ ks.map (·.1)) ∧ Same H5 H')
          ⟨⟨_, none, none, none, none, none, D, cs0, rfl, hD5, nDp, by omega, hcs0⟩, Same.refl _⟩ ?_ ?_
        · rintro i σ H6 hi ⟨⟨y6, y9, y10, y11, y12, y13, c, cs, rfl, hc6, ncp, lc, hcs⟩, s6⟩
          have k5 : ∀ kr ∈ ks, kr.2.length ≤ 5 := fun kr hk => (gk.en kr hk).2.1
          refine ⟨_, rfl, _, rfl, _, rfl, Nat.zero_le _, fun e0 ne0 => ?_⟩
          have t7 := same_new (o := .lst []) ne0
          have de : Dt (upd H6 e0 (.lst [])) (.ref e0) (.list (([] : Rows2).map rowT)) := .lst upd_same (Nat.zero_le _) .nil
          have hc7 := t7 _ _ hc6
          have s7 := s6.trans t7
          generalize upd H6 e0 (.lst []) = H7 at t7 de hc7 s7 ⊢
          refine ⟨lk, c, e0, ks, ws, cs, [], rfl, s7 _ _ hw5, knds_same s7 kn5, gk.nd, k5, hc7, by omega, hcs, de, Nat.zero_le _, fun p' H8 vs np' s8 hp' ev => ?_⟩
          have len36 := sortsE_len (ks := ks) (cs := cs) (lg := []) k5 (by omega) (Nat.zero_le _)
          generalize hES : sortsE ks cs [] = ES at len36
          have lvs : vs.length = ES.length := by
            rw [ev.len, ← hES, ← allE_sorts, List.length_map]
          refine ⟨p', rfl, ⟨_, SqL.of hp'⟩, fun D2 nD2 => ?_⟩
          refine lc_it walk_list (fun j H' => Same H8 (del H' D2) ∧ H' D2 = some (.lst ((ES.take j).map V.str))) ⟨same_del' nD2, upd_same⟩ (fun j H' _ h => SqL.of (del_sub _ _ (h.1 _ _ hp'))) ?_ ?_
          · rintro j x H9 H10 hj ⟨s9, hD9⟩ ⟨rfl, hx⟩
            obtain ⟨e, he, q, rfl, tq⟩ := paired_at ev hx
            have tq4 := (tq.same s9).same del_sub
            refine ⟨q, _, rfl, tq4.sq, rfl, _, _, rfl, _, _, rfl, rfl, ?_⟩
            refine ⟨rfl, ?_⟩
            delta tYes
            dsimp only
            rw [if_pos rfl]
            have hes : ES[j]? = some e.2 := by
              rw [← hES, ← allE_sorts, List.getElem?_map, he]
              rfl
            refine ⟨_, rfl, _, hD9, ?_, s9.trans del_upd_same, ?_⟩
            · rw [List.length_map, List.length_take]
              exact small1000 (by omega)
            · rw [upd_same, take_snoc hes, List.map_append]
              rfl
          · rintro H9 ⟨s9, hD9⟩
            rw [lvs, List.take_of_length_le (Nat.le_refl _)] at hD9
            have s79 := s8.trans (s9.trans del_sub)
            have s59 := s7.trans s79
            have hE9 := s59 _ _ hE5
            refine ⟨E2, D2, _, _, rfl, rfl, hE9, hD9, ?_, fun so nso => ?_⟩
            · rw [List.length_map, List.length_map, sizeLine_eq]
              omega
            have t10 := same_new (o := .lst (xe.map V.str ++ ES.map V.str)) nso
            have hso : upd H9 so (.lst (xe.map V.str ++ ES.map V.str)) so = some (.lst ((xe ++ ES).map V.str)) := by rw [upd_same, List.map_append]
            have s510 := s59.trans t10
            have s610 := (t7.trans s79).trans t10
            generalize upd H9 so (.lst (xe.map V.str ++ ES.map V.str)) = H10 at t10 hso s510 s610 ⊢
            have lso : (xe ++ ES).length ≤ 60 := by rw [List.length_append]; omega
            refine ⟨_, rfl, _, rfl, _, rfl, ls, so, rows, xe ++ ES, rfl, ds5.same s510, g3, mu, hso, lso, fun w H11 ys nw sw hw' lw' hys eys => ?_⟩
            have s511 := s510.trans sw
            refine ⟨E2, w, _, _, rfl, rfl, s511 _ _ hE5, hw', ?_, fun wi nwi => ?_⟩
            · rw [List.length_map, List.length_map, sizeLine_eq]
              omega
            have t12 := same_new (o := .lst (xe.map V.str ++ ys.map V.str)) nwi
            have hwi : upd H11 wi (.lst (xe.map V.str ++ ys.map V.str)) wi = some (.lst ((xe ++ ys).map V.str)) := by rw [upd_same, List.map_append]
            have s512 := s511.trans t12
            have s612 := (s610.trans sw).trans t12
            have hso12 := t12 _ _ (sw _ _ hso)
            generalize upd H11 wi (.lst (xe.map V.str ++ ys.map V.str)) = H12 at t12 hwi s512 s612 hso12 ⊢
            have wsub : ∀ y ∈ xe ++ ys, y ∈ rows.map (·.1) := fun y hy => by
              rcases List.mem_append.mp hy with h | h
              · exact hxe y h
              · exact hys y h
            have rn : ∀ x ∈ rows.map (·.1), nameS x = true := fun x hx => by
              obtain ⟨r, hr_, e⟩ := List.mem_map.mp hx
              rw [← e]
              exact (gN_ r hr_).1
            generalize hwh : xe ++ ys = wh at hwi wsub
            have hE12 := s512 _ _ hE5
            have hc12 := s612 _ _ hc6
            have hlw12 := s512 _ _ hlw
            have hp12 := hp5.same s512
            have oE : Off p H H12 := oD.trans (Same.off s512)
            refine ⟨_, rfl, wi, _, rfl, .inl (SqL.of hwi), _, _, rfl, rfl, _, rfl, ?_⟩
            dsimp only
            split
            · rename_i hle
              have w6 : wh.length ≤ 6 := by
                have q := of_decide_eq_true hle
                rw [List.length_map] at q
                omega
              refine ⟨_, rfl, so, _, rfl, .inl (SqL.of hso12), _, rfl, wi, _, rfl, .inl (SqL.of hwi), _, _, rfl, rfl, _, rfl, E2, _, rfl, .inl (SqL.of hE12), _, _, rfl, rfl, _, rfl, _, _, rfl, rfl, _, rfl, ?_⟩
              dsimp only
              split
              · rename_i hfar
                refine ⟨_, rfl, _, rfl, _, rfl, lw, wi, _, _, rfl, SqL.of hlw12, SqL.of hwi, by rw [List.length_map]; omega, fun zl H13 acc nz s13 hz13 lz za => ?_⟩
                rw [List.length_map, List.length_map] at lz
                have da := dt_zip za lz hnm.nm fun y hy => rn y (wsub y hy)
                have dz : Dt H13 (.ref zl) (.list ((nms.zip wh).map rowT)) := .lst hz13 (by omega) da
                delta tNil
                dsimp only
                refine sort_ok dz (fun d hd => by obtain ⟨g, _, rfl⟩ := List.mem_map.mp hd; exact low_rowT g) (alike_rows _) (sortable_rows _) fun pz H14 dpz s14 => ?_
                rw [sortD_R] at dpz
                have lz2 : (nms.zip wh).length ≤ 6 := by rw [List.length_zip]; omega
                have sub1 : ((nms.zip wh).map (·.1)).Sublist nms := by
                  rw [show (nms.zip wh).map (·.1) = nms.take (min nms.length wh.length) from zip_fst_take nms wh]
                  exact List.take_sublist _ _
                have lg := LegsG.sorted (rows := rows) (lg := nms.zip wh) lz2 (hnm.nd.sublist sub1) (fun g hg => hnm.nm _ (List.of_mem_zip hg).1) (fun g hg => wsub _ (List.of_mem_zip hg).2)
                refine ⟨by show 2 ≤ sizeLine; decide, fun t nt => ?_⟩
                have t15 := same_new (o := .tup [.ref c, .ref pz]) nt
                have s1215 := (s13.trans s14).trans t15
                have hp14 := hp12.same (s13.trans s14)
                have sAll := s512.trans s1215
                have npz : pz ≠ p := rows_src hp14 dpz
                have hbal : Bal rows (sortsE ks cs (sortR (nms.zip wh))) := by
                  refine Bal.perm ?_ (bal_want mu (xe ++ ES))
                  have p1 : ((sortR (nms.zip wh)).map (·.2)).Perm wh := ((sortR_perm _).map _).trans (by
                    rw [show (nms.zip wh).map (·.2) = wh from List.map_snd_zip (by omega)])
                  rw [← eys, ← hES]
                  unfold sortsE
                  rw [List.map_nil, List.append_nil, List.append_assoc]
                  refine (List.perm_append_comm_assoc xe _ ys).trans ?_
                  rw [hwh]
                  exact p1.symm.append_left _
                have hlen : 0 ≤ far → (((sortsE ks cs (sortR (nms.zip wh))).length : Nat) : Int) ≤ far := fun _ => by
                  have q := of_decide_eq_true hfar
                  have p1 : ((sortR (nms.zip wh)).map (·.2)).length = wh.length := by
                    rw [List.length_map, (sortR_perm _).length_eq, List.length_zip]
                    omega
                  have p2 : (sortsE ks cs (sortR (nms.zip wh))).length = ES.length + wh.length := by
                    rw [← hES]
                    unfold sortsE
                    rw [List.map_nil, List.append_nil, List.length_append, p1]
                  rw [p2]
                  simp only [List.length_map, List.length_append] at q
                  omega
                exact k t c pz cs _ _ lc hcs lg (fun g hg => hnm.last g.1 (List.of_mem_zip ((sortR_perm _).mem_iff.mp hg)).1) hbal hlen upd_same (hp14.ne nt) (s1215 _ _ hc12) ncp (dpz.same t15) npz ((hp5.same sAll).mono (by omega)) (oD.trans (Same.off sAll))
              · refine ⟨_, rfl, 1, rfl, (-1 : Int), rfl, c, _, rfl, SqL.of hc12, fun u nu => ?_⟩
                obtain ⟨kk, ecut⟩ := cut_any cs (some (-1))
                rw [ecut]
                exact ⟨⟨_, _, _, _, _, _, u, cs.take kk, rfl, upd_same, hp12.ne nu, by rw [List.length_take]; omega, fun x hx => hcs x (List.mem_of_mem_take hx)⟩, s512.trans (same_new nu)⟩
            · refine ⟨_, rfl, 1, rfl, (-1 : Int), rfl, c, _, rfl, SqL.of hc12, fun u nu => ?_⟩
              obtain ⟨kk, ecut⟩ := cut_any cs (some (-1))
              rw [ecut]
              exact ⟨⟨_, _, _, _, _, _, u, cs.take kk, rfl, upd_same, hp12.ne nu, by rw [List.length_take]; omega, fun x hx => hcs x (List.mem_of_mem_take hx)⟩, s512.trans (same_new nu)⟩
        · rintro σ H6 ⟨⟨y6, y9, y10, y11, y12, y13, c, cs, rfl, hc6, ncp, lc, hcs⟩, s6⟩
          have hp6 := hp5.same s6
          refine ⟨Nat.zero_le _, fun e0 ne0 => ?_⟩
          have t7 := same_new (o := .lst []) ne0
          have h7 : upd H6 e0 (.lst []) e0 = some (.lst (([] : List Str).map V.str)) := upd_same
          generalize upd H6 e0 (.lst []) = H7 at t7 h7 ⊢
          refine ⟨Nat.zero_le _, fun e1 ne1 => ?_⟩
          have t8 := same_new (o := .lst []) ne1
          have de : Dt (upd H7 e1 (.lst [])) (.ref e1) (.list (([] : Rows2).map rowT)) := .lst upd_same (Nat.zero_le _) .nil
          have h8 := t8 _ _ h7
          have n1p := (hp6.same t7).ne ne1
          generalize upd H7 e1 (.lst []) = H8 at t8 de h8 ⊢
          refine ⟨by show 2 ≤ sizeLine; decide, fun t nt => ?_⟩
          have t9 := same_new (o := .tup [.ref e0, .ref e1]) nt
          have sT := ((s6.trans t7).trans t8).trans t9
          exact k t e0 e1 [] [] _ (Nat.zero_le _) (fun x hx => nomatch hx) (LegsG.nil rows) (fun g hg => nomatch hg) (fun r hr => ⟨fun _ => rfl, fun _ => rfl⟩) (fun h => h) upd_same ((hp6.same (t7.trans t8)).ne nt) (t9 _ _ h8) (hp6.ne ne0) (de.same t9) n1p ((hp5.same sT).mono (by omega)) (oD.trans (Same.off sT))
end
end Toy
set_option Elab.async false
set_option linter.all false
set_option maxRecDepth 100000
set_option maxHeartbeats 4000000
namespace Toy
open PySem PySem.Spec PyProof.Rows L2
theorem pair_fuel (rows : Rows2) (ES : List End) : ∀ (n m : Nat) (xs : List Nat), xs.Nodup → xs.length ≤ 2 * n → xs.length ≤ 2 * m → pairN rows ES n xs = pairN rows ES m xs
  | 0, 0, [], _, _, _ => rfl
  | 0, _ + 1, [], _, _, _ => rfl
  | _ + 1, 0, [], _, _, _ => rfl
  | _ + 1, _ + 1, [], _, _, _ => rfl
  | 0, _, a :: rest, _, h, _ => absurd h (by rw [List.length_cons]; omega)
  | _ + 1, 0, a :: rest, _, _, h => absurd h (by rw [List.length_cons]; omega)
  | n + 1, m + 1, a :: rest, nd, h1, h2 => by
    obtain ⟨na, ndr⟩ := List.nodup_cons.mp nd
    rw [List.length_cons] at h1 h2
    show (rest.filter fun b => prtB rows ES a b).flatMap _ = (rest.filter fun b => prtB rows ES a b).flatMap _
    refine flat_congr _ fun b hb => ?_
    obtain ⟨hbm, _⟩ := List.mem_filter.mp hb
    have lo := off_len ndr hbm
    rw [pair_fuel rows ES n m (offN b rest) (ndr.sublist off_sub) (by omega) (by omega)]
theorem rows_dt {H : Hp} : ∀ {rs : List Addr} {L : List (List (Nat × Nat))}, RowsP H rs L → (∀ p ∈ L, p.length ≤ 1000) → DtAll H (rs.map V.ref) (L.map fun p => .list (p.map pairT))
  | _, _, .nil, _ => .nil
  | _, _, .cons ⟨vs, e, p⟩ t, h => .cons (.lst e (by rw [p.len]; exact h _ List.mem_cons_self) p.dt) (rows_dt t fun q hq => h q (List.mem_cons_of_mem _ hq))
theorem low_pairsL (L : List (List (Nat × Nat))) : Low 20 (.list (L.map fun p => .list (p.map pairT))) := by
  have q2 := depth_all (n := 3) (ds := L.map fun p => PyData.list (p.map pairT)) fun d hd => by
    obtain ⟨p, _, rfl⟩ := List.mem_map.mp hd
    have q1 := depth_all (n := 1) (ds := p.map pairT) fun d hd => by
      obtain ⟨e, _, rfl⟩ := List.mem_map.mp hd
      show PyData.depthAll [PyData.int (e.1 : Nat), PyData.int (e.2 : Nat)] + 1 ≤ 1
      have := depth_all (n := 0) (ds := [PyData.int (e.1 : Nat), PyData.int (e.2 : Nat)]) fun d hd => by
        have hd2 : d = PyData.int (e.1 : Nat) ∨ d = PyData.int (e.2 : Nat) := by simpa using hd
        rcases hd2 with rfl | rfl <;> exact Nat.le_refl _
      omega
    show PyData.depthAll _ + 1 ≤ 3
    omega
  refine ⟨noDicts_all fun d hd => ?_, ?_⟩
  · obtain ⟨p, _, rfl⟩ := List.mem_map.mp hd
    show noDicts (p.map pairT) = true
    exact noDicts_all fun d hd => by obtain ⟨e, _, rfl⟩ := List.mem_map.mp hd; rfl
  · show PyData.depthAll _ + 1 ≤ 20
    omega
def spRight22 (C : Addr) : Sp := fun vs H Q _ => ∃ (a ls q c g : Addr) (rows : Rows2) (ks : List KRow) (es' : List V) (cs : List Str) (lg : Rows2), vs = [.ref a, .ref ls, .ref q, .ref c, .ref g] ∧ StkP C H a rows ks ∧ Dt H (.ref ls) (.list (rows.map rowT)) ∧ GoodS rows ∧ Mut rows ∧ GoodK (rows.map (·.1)) ks ∧ H q = some (.lst es') ∧ EndsAt H es' (allE ks cs lg) ∧
  cs.length ≤ 6 ∧ (∀ x ∈ cs, x ∈ ks.map (·.1)) ∧ H c = some (.lst (cs.map V.str)) ∧ Dt H (.ref g) (.list (lg.map rowT)) ∧ LegsG rows lg ∧ (allE ks cs lg).length ≤ 10 ∧ ∀ H', Same H H' → Q (.bl true) H'
section
variable {P : Program} {w : World} {K : PySem.W.Frag} {mg : Str → Option Value} {base : Heap}
abbrev riN : List Str := ["_law_stock", "_law_sorts", "_law_ends", "_law_corners", "_law_legs", "_law_due", "_law_turn", "_law_found", "_law_row"]
theorem scRight : FnScope riN ["_law_stock", "_law_sorts", "_law_ends", "_law_corners", "_law_legs"] (defScope sRight) := ⟨rfl, rfl, rfl, by decide +kernel, rfl, by decide +kernel, by decide +kernel⟩
theorem ok_right22 {f fAL fPA fCO C CN : Addr} {fd fdAL fdPA fdCO : FuncData} (F : Fun K "_law_right" "_law_right" sRight f fd) (M : Mods mg)
    (GAL : FnOk P w K mg base CX0 1 fAL fdAL ["_law_sorts", "_law_ends"] spAllPairings) (kAL : PySem.W.keepIn K (.ref fAL) = true) (bAL : Binds K fdAL ["_law_sorts", "_law_ends"] []) (gAL : mg "_law_all_pairings" = some (.ref fAL))
    (GPA : FnOk P w K mg base (L2.CX P w) 8 fPA fdPA ["stock", "corners", "legs"] (spPairings C)) (kPA : PySem.W.keepIn K (.ref fPA) = true) (bPA : Binds K fdPA ["stock", "corners", "legs"] []) (gPA : mg "pairings" = some (.ref fPA))
    (GCO : FnOk P w K mg base (L2.CX P w) 5 fCO fdCO ["stock", "corners", "legs"] (spCount C CN)) (kCO : PySem.W.keepIn K (.ref fCO) = true) (bCO : Binds K fdCO ["stock", "corners", "legs"] []) (gCO : mg "count" = some (.ref fCO))
    (mR : mg "range" = none) :
    FnOk P w K mg base CX0 9 f fd ["_law_stock", "_law_sorts", "_law_ends", "_law_corners", "_law_legs"] (spRight22 C) := by
  refine F.ok scRight (fun vs H Q E h => ?_) (fun cdv A outer s H vs Q E hr h => ?_)
  · obtain ⟨a, ls, q, c, g, rows, ks, es', cs, lg, rfl, _⟩ := h
    rfl
  · obtain ⟨a, ls, q, c, g, rows, ks, es', cs, lg, rfl, sg, ds, gd, mu, gk, hq, ev, c6, hcs, hc, dg, LG, l10, k⟩ := h
    have hr1 : Room 1 (A.deeper (envOfC "_law_right" (defScope sRight) s.heap.objs.size f cdv)) := hr.mono (by decide)
    have hr5 : Room 5 (A.deeper (envOfC "_law_right" (defScope sRight) s.heap.objs.size f cdv)) := hr.mono (by decide)
    have hr8 : Room 8 (A.deeper (envOfC "_law_right" (defScope sRight) s.heap.objs.size f cdv)) := hr
    refine ⟨_, (pss_cons (ps_set (i := 5) scRight.nd rfl (Or.inl rfl) (pe_call GAL hr1 (by rfl) gAL kAL bAL .nil pass0 (pa_cons (pv 1) (pa_cons (pv 2) pa_nil))))
      (pss_cons (ps_for PassesOwn.never rfl (pi_range1 (by rfl) mR (pa_cons pe_int pa_nil)) (pg_name (i := 6) scRight.nd rfl (Or.inl rfl)) (pss_cons (ps_set (i := 7) scRight.nd rfl (Or.inl rfl) (pe_callS (E := noE) GPA hr8 (by rfl) gPA kPA bPA (fun σ => passN σ) (pa_cons (pv 0) (pa_cons (pv 3) (pa_cons (pv 4) pa_nil)))))
      (pss_cons (ps_if (PW.pt (pw_or (pt_not (pt_val (pe_callB (call_isd (T := "list")) (by rfl) M.isi (by decide +kernel) (pa_cons (pv 7) (pa_cons (pe_bltn (v := .ty "list") (by rfl) M.lst_ (by decide +kernel) rfl) pa_nil))))) (pw_or (pt_cmpR (op_neD hr.units) (pv 7) (pv 5) (nomark _)) (pw_or1 (pt_cmpR op_ne (pe_callB call_len_seq (by rfl) M.len PySem.boot_len (pa_cons (pv 7) pa_nil)) (pe_callS (E := noE) GCO hr5 (by rfl) gCO kCO bCO (fun σ => passN σ) (pa_cons (pv 0) (pa_cons (pv 3) (pa_cons (pv 4) pa_nil)))) (nomark _)))))) (pss_one (ps_ret pe_bl)) pss_nil)
      (pss_cons (ps_for PassesOwn.never rfl (pi_list (pe_slice sl_list (pv 7) po_none (po_some pe_int))) (pg_name (i := 8) scRight.nd rfl (Or.inl rfl)) (pss_one (ps_expr (pe_bm PySem.F.plainAttrs_list PySem.F.slot_list_append PySem.F.type_list_append mt_append (pv 8) (pa_cons (pe_tup (pa_cons pe_int (pa_cons pe_int pa_nil))) pa_nil)))))
      (pss_cons (ps_expr (pe_bm PySem.F.plainAttrs_list PySem.F.slot_list_append PySem.F.type_list_append mt_append (pv 7) (pa_cons (pe_lst pa_nil) pa_nil)))
      (pss_one (ps_expr (pe_bm0 PySem.F.plainAttrs_list PySem.F.slot_list_reverse PySem.F.type_list_reverse mt_reverse (pv 7)))))))))
      (pss_one (ps_ret pe_bl)))), ?_⟩
    obtain ⟨g1, g3, gnm, gnd, gmu⟩ := good_rows gd
    have k5 : ∀ kr ∈ ks, kr.2.length ≤ 5 := fun kr hk => (gk.en kr hk).2.1
    have rn : ∀ x ∈ rows.map (·.1), nameS x = true := fun x hx => by
      obtain ⟨r, hr_, e⟩ := List.mem_map.mp hx
      rw [← e]
      exact (gnm r hr_).1
    have ncs : ∀ x ∈ cs, nameS x = true := fun x hx => by
      obtain ⟨kr, hk, e⟩ := List.mem_map.mp (hcs x hx)
      rw [← e]
      exact gk.nm kr hk
    have eAS := allE_sorts ks cs lg
    have memE := sortsE_mem (rows := rows) gk hcs LG.so
    have memA : ∀ e ∈ allE ks cs lg, e.2 ∈ rows.map (·.1) := fun e he => memE _ (by rw [← eAS]; exact List.mem_map_of_mem (f := fun e : End => e.2) he)
    have nam : ∀ e ∈ allE ks cs lg, nameS e.2 = true := fun e he => rn _ (memA e he)
    have dc : ∀ {H'}, Same H H' → Dt H' (.ref c) (.list (cs.map .str)) := fun s => dt_lstrs (s _ _ hc) (by omega) ncs
    have ok1 := corners_ok c6 hcs ncs
    have ok2 := legs_ok LG rn
    have lg6 := LG.l6
    -- how many
    have srt : ∀ x ∈ List.range (allE ks cs lg).length, srtA (allE ks cs lg) x ∈ rows.map (·.1) := fun x hx => memA _ (List.mem_of_getElem? (endAt_of (List.mem_range.mp hx)))
    have eC := pair_count mu 5 (List.range (allE ks cs lg).length) List.nodup_range (by rw [List.length_range]; omega) srt
    have eR : (List.range (allE ks cs lg).length).map (srtA (allE ks cs lg)) = sortsE ks cs lg := by
      have q := congrArg (List.map fun e : End => e.2) (range_ends (allE ks cs lg))
      rw [List.map_map] at q
      rw [← eAS]
      exact q
    rw [eR] at eC
    have l945 := Nat.le_trans (pair_most rows (allE ks cs lg) 5 (List.range (allE ks cs lg).length) List.nodup_range (by rw [List.length_range]; omega)) (most5 (Nat.le_refl 5))
    have each : ∀ p ∈ pairN rows (allE ks cs lg) 5 (List.range (allE ks cs lg).length), p.length ≤ 1000 := fun p hp => by
      rcases pair_each rows (allE ks cs lg) 5 _ p hp with h | h | h
      · rw [List.length_range] at h
        omega
      · rw [List.length_range] at h
        omega
      · exact absurd List.nodup_range h
    have eT : (turnP rows (allE ks cs lg) (((allE ks cs lg).length + 1) / 2) [([], List.range (allE ks cs lg).length)]).map (·.1) = pairN rows (allE ks cs lg) 5 (List.range (allE ks cs lg).length) := by
      rw [turn_pair _ _ _ _ fun x hx => ?_]
      · rw [List.flatMap_cons, List.flatMap_nil, List.append_nil, pair_fuel rows (allE ks cs lg) _ 5 _ List.nodup_range (by rw [List.length_range]; omega) (by rw [List.length_range]; omega)]
        exact List.map_id _
      · have e : x = ([], List.range (allE ks cs lg).length) := by simpa using hx
        subst e
        refine ⟨List.nodup_range, ?_⟩
        show (List.range _).length = _ ∨ (List.range _).length + 1 = _
        rw [List.length_range]
        omega
    generalize eP : pairN rows (allE ks cs lg) 5 (List.range (allE ks cs lg).length) = PP at eC l945 each eT
    refine ⟨_, rfl, _, rfl, ls, q, rows, es', allE ks cs lg, rfl, ds, mu, hq, ev, memA, l10, fun p0 rs0 H1 s1 hp0 rp0 => ?_⟩
    rw [eT] at rp0
    have dd0 : Dt H1 (.ref p0) (.list (PP.map fun p => .list (p.map pairT))) := .lst hp0 (by rw [List.length_map, rp0.len]; omega) (rows_dt rp0 each)
    refine ⟨2, rfl, by decide, by decide, ?_⟩
    have em : ((2 : Int)).toNat = 2 := rfl
    rw [em]
    refine for_range (n := 2) (fun i σ H' => ∃ y6 y7 y8, σ = [some (.ref a), some (.ref ls), some (.ref q), some (.ref c), some (.ref g), some (.ref p0), y6, y7, y8] ∧ Same H1 H') ⟨_, _, _, rfl, Same.refl _⟩ ?_ ?_
    · rintro i σ H2 hi ⟨y6, y7, y8, rfl, s2⟩
      have s12 := s1.trans s2
      refine ⟨_, rfl, _, rfl, _, rfl, a, c, g, rows, ks, cs, lg, rfl, sg.same s12, k5, c6, lg6, hcs, s12 _ _ hc, dc s12, dg.same s12, ok1, ok2, nam, l10, fun p rs H3 np s3 hp rp fr => ?_⟩
      rw [eP] at rp
      have dd : Dt H3 (.ref p) (.list (PP.map fun p => .list (p.map pairT))) := .lst hp (by rw [List.length_map, rp.len]; omega) (rows_dt rp each)
      refine gn_go ?_
      refine ⟨_, rfl, _, .list _, _, rfl, dd, kit_list _, _, rfl, ?_⟩
      dsimp only
      rw [if_neg (by decide)]
      refine ⟨_, rfl, _, rfl, neD_same dd (dd0.same (s2.trans s3)) (low_pairsL _) ⟨_, rfl, ?_⟩⟩
      dsimp only
      rw [if_neg (by decide)]
      have s13 := s12.trans s3
      refine ⟨_, rfl, p, _, rfl, .inl (SqL.of hp), _, rfl, _, rfl, _, rfl, a, rows, ks, .ref c, .ref g, _, _, rfl, sg.same s13, g3, k5, dc s13, dg.same s13, fun no => ?_, fun _ no => ?_, fun cs' lg' ec el _ _ H4 s4 => ?_⟩
      · rw [ok1] at no
        cases no
      · rw [ok2] at no
        cases no
      have e1 : cs' = cs := by
        injection ec with ec
        have q := congrArg (List.map strO) ec
        rw [strO_map, strO_map] at q
        exact q.symm
      have e2 : lg' = lg := by
        injection el with el
        have q := congrArg (List.map rowOf) el
        rw [rowOf_T, rowOf_T] at q
        exact q.symm
      subst e1 e2
      refine ⟨rfl, _, rfl, ?_⟩
      rw [List.length_map, rp.len, eC]
      dsimp only
      rw [if_neg (by simp)]
      have s24 := s3.trans s4
      have each4 : ∀ r ∈ p :: rs, ∃ xs, H4 r = some (.lst xs) ∧ xs.length ≤ 1000 := fun r hr_ => by
        rcases List.mem_cons.mp hr_ with rfl | hr_
        · exact ⟨_, s4 _ _ hp, by rw [List.length_map, rp.len]; omega⟩
        · obtain ⟨i, hi, rfl⟩ := List.getElem_of_mem hr_
          obtain ⟨prs, hprs, vs, hvs, pvs⟩ := paired_at (show Paired (RowP H3) rs _ from rp) (List.getElem?_eq_getElem hi)
          exact ⟨vs, s4 _ _ hvs, by rw [pvs.len]; exact each _ (List.mem_of_getElem? hprs)⟩
      have old4 : ∀ r ∈ p :: rs, H2 r = none := fun r hr_ => by
        rcases List.mem_cons.mp hr_ with rfl | hr_
        · exact np
        · exact fr r hr_
      refine ⟨_, rfl, 3, rfl, p, _, rfl, SqL.of (s4 _ _ hp), fun u nu => ?_⟩
      have e3 : cutV (rs.map V.ref) none (some 3) = (rs.take 3).map V.ref := by
        have q := cut_to (rs.map V.ref) 3
        rw [List.map_take]
        exact q
      rw [e3]
      have t5 := same_new (o := .lst ((rs.take 3).map V.ref)) nu
      have hu5 : upd H4 u (.lst ((rs.take 3).map V.ref)) u = some (.lst ((rs.take 3).map V.ref)) := upd_same
      have each5 : ∀ r ∈ p :: rs, r ≠ u ∧ ∃ xs, upd H4 u (.lst ((rs.take 3).map V.ref)) r = some (.lst xs) ∧ xs.length ≤ 1000 := fun r hr_ => by
        obtain ⟨xs, h1, h2⟩ := each4 r hr_
        exact ⟨fun z => (by rw [z, nu] at h1; cases h1), xs, t5 _ _ h1, h2⟩
      have s25 := s24.trans t5
      generalize upd H4 u (.lst ((rs.take 3).map V.ref)) = H5 at t5 hu5 each5 s25 ⊢
      refine ⟨u, rfl, ⟨_, SqL.of hu5⟩, for_list (K := K) (a := u) (xs := (rs.take 3).map V.ref) (fun j σ H' => ∃ y8, σ = [some (.ref a), some (.ref ls), some (.ref q), some (.ref c), some (.ref g), some (.ref p0), some (.int (0 + (i : Nat))), some (.ref p), y8] ∧ Same H2 H' ∧ H' u = some (.lst ((rs.take 3).map V.ref)) ∧ ∀ r ∈ p :: rs, r ≠ u ∧ ∃ xs, H' r = some (.lst xs) ∧ xs.length ≤ 1000 + j)
        ⟨_, rfl, s25, hu5, each5⟩ (fun j σ H' _ h => by obtain ⟨_, _, _, h, _⟩ := h; exact SqL.of h) ?_ ?_⟩
      · rintro j v σ H6 hv ⟨y8, rfl, s6, hu6, each6⟩
        have hj : j < 3 := by
          have := (List.getElem?_eq_some_iff.mp hv).1
          rw [List.length_map, List.length_take] at this
          omega
        rw [List.getElem?_map] at hv
        obtain ⟨r, hr_, rfl⟩ := Option.map_eq_some_iff.mp hv
        have hrm : r ∈ p :: rs := List.mem_cons_of_mem _ (List.mem_of_mem_take (List.mem_of_getElem? hr_))
        obtain ⟨nru, xs, hx, lx⟩ := each6 r hrm
        refine gn_go ?_
        refine ⟨_, rfl, .inl ⟨rfl, _, SqL.of hx⟩, by show 2 ≤ sizeLine; decide, fun T nT => ?_⟩
        have t7 := same_new (o := .tup [.int 0, .int 1]) nT
        have hx7 := t7 _ _ hx
        have s7 := s6.trans t7
        have hu7 := t7 _ _ hu6
        have each7 : ∀ r ∈ p :: rs, r ≠ u ∧ ∃ xs, upd H6 T (.tup [.int 0, .int 1]) r = some (.lst xs) ∧ xs.length ≤ 1000 + j := fun r hr_ => by
          obtain ⟨n, xs, h1, h2⟩ := each6 r hr_
          exact ⟨n, xs, t7 _ _ h1, h2⟩
        generalize upd H6 T (.tup [.int 0, .int 1]) = H7 at t7 hx7 s7 hu7 each7 ⊢
        refine ⟨r, _, _, rfl, rfl, hx7, by rw [sizeLine_eq]; omega, ?_⟩
        refine ⟨_, rfl, fun b o e => ?_, ?_, fun r2 hr2 => ?_⟩
        · rw [upd_ne (ne_of_none e (old4 r hrm))]
          exact s7 _ _ e
        · rw [upd_ne nru.symm]
          exact hu7
        · obtain ⟨n2, xs2, h1, h2⟩ := each7 r2 hr2
          refine ⟨n2, ?_⟩
          by_cases z : r2 = r
          · subst z
            exact ⟨_, upd_same, by rw [List.length_append, List.length_singleton]; omega⟩
          · exact ⟨xs2, by rw [upd_ne z]; exact h1, by omega⟩
      · rintro σ H6 ⟨y8, rfl, s6, hu6, each6⟩
        have lt3 : ((rs.take 3).map V.ref).length ≤ 3 := by
          rw [List.length_map, List.length_take]
          omega
        obtain ⟨npu, xs, hx, lx⟩ := each6 p List.mem_cons_self
        refine ⟨_, rfl, .inl ⟨rfl, _, SqL.of hx⟩, Nat.zero_le _, fun T nT => ?_⟩
        have t7 := same_new (o := .lst []) nT
        have hx7 := t7 _ _ hx
        have s7 := s6.trans t7
        generalize upd H6 T (.lst []) = H7 at t7 hx7 s7 ⊢
        refine ⟨p, _, _, rfl, rfl, hx7, by rw [sizeLine_eq]; omega, ?_⟩
        have hx8 : upd H7 p (.lst (xs ++ [.ref T])) p = some (.lst (xs ++ [.ref T])) := upd_same
        have s8 : Same H2 (upd H7 p (.lst (xs ++ [.ref T]))) := fun b o e => by
          rw [upd_ne (ne_of_none e np)]
          exact s7 _ _ e
        generalize upd H7 p (.lst (xs ++ [.ref T])) = H8 at hx8 s8 ⊢
        refine ⟨_, rfl, .inl ⟨rfl, _, SqL.of hx8⟩, p, _, rfl, rfl, hx8, ?_⟩
        refine ⟨_, _, _, rfl, s2.trans fun b o e => ?_⟩
        rw [upd_ne (ne_of_none e np)]
        exact s8 _ _ e
    · rintro σ H2 ⟨y6, y7, y8, rfl, s2⟩
      exact k _ (s1.trans s2)
-- LAW
end
theorem zz_name : nameS zzS = true := by decide +kernel
theorem zz_last {x : Str} (h : LastOk x) : x ≠ zzS := fun e => by
  obtain ⟨c, hc, e2⟩ := h
  rw [e] at e2
  have q : zzS.cps.toList.getLast? = some 122 := by decide +kernel
  rw [q] at e2
  have e3 : c = 122 := (Option.some.inj e2).symm
  subst e3
  exact absurd hc (by decide)
def spLaw (K : PySem.W.Frag) : Sp := fun vs H Q _ => ∃ (a : Addr) (ns : List Int), vs = [.ref a] ∧ SqL K H a (ns.map V.int) ∧ ns.length ≤ 63 ∧ ∀ H', Q (.bl true) H'
section
variable {P : Program} {w : World} {K : PySem.W.Frag} {mg : Str → Option Value} {base : Heap}
abbrev lawN : List Str := ["_law_script", "_law_cell", "_law_state_here", "_law_far", "_law_sorts", "_law_kinds", "_law_corners", "_law_legs", "_law_way"]
theorem scLaw : FnScope lawN ["_law_script"] (defScope sLaw) := ⟨rfl, rfl, rfl, by decide +kernel, rfl, by decide +kernel, by decide +kernel⟩
theorem ok_law {f fI fS fN fR fD fT fRI fX C CN CS : Addr} {fd fdI fdS fdN fdR fdD fdT fdRI : FuncData} (F : Fun K "law" "law" sLaw f fd) (M : Mods mg) (T : StkC K mg C CS fX) (mak : Mk K C fI)
    (GI : FnOk P w K mg base (L2.CX P w) 5 fI fdI ["self", "sorts", "kinds"] (spInit C CS)) (bI : Binds K fdI ["self", "sorts", "kinds"] [])
    (GS : FnOk P w K mg base CX0 1 fS fdS ["_law_cell"] spState) (kS : PySem.W.keepIn K (.ref fS) = true) (bS : Binds K fdS ["_law_cell"] []) (gS : mg "_law_state" = some (.ref fS))
    (GN : FnOk P w K mg base CX0 1 fN fdN ["_law_state_here", "_law_many"] spPick) (kN : PySem.W.keepIn K (.ref fN) = true) (bN : Binds K fdN ["_law_state_here", "_law_many"] []) (gN : mg "_law_pick" = some (.ref fN))
    (GR : FnOk P w K mg base CX0 3 fR fdR ["_law_state_here", "_law_most"] spRows) (kR : PySem.W.keepIn K (.ref fR) = true) (bR : Binds K fdR ["_law_state_here", "_law_most"] []) (gR : mg "_law_stock_rows" = some (.ref fR))
    (GD : FnOk P w K mg base CX0 3 fD fdD ["_law_state_here", "_law_sorts", "_law_kinds", "_law_most", "_law_far"] spGrounds) (kD : PySem.W.keepIn K (.ref fD) = true) (bD : Binds K fdD ["_law_state_here", "_law_sorts", "_law_kinds", "_law_most", "_law_far"] []) (gD : mg "_law_grounds" = some (.ref fD))
    (GT : FnOk P w K mg base CX0 1 fT fdT ["_law_kinds", "_law_corners", "_law_legs"] spThere) (kT : PySem.W.keepIn K (.ref fT) = true) (bT : Binds K fdT ["_law_kinds", "_law_corners", "_law_legs"] []) (gT : mg "_law_there" = some (.ref fT))
    (GRI : FnOk P w K mg base CX0 9 fRI fdRI ["_law_stock", "_law_sorts", "_law_ends", "_law_corners", "_law_legs"] (spRight22 C)) (kRI : PySem.W.keepIn K (.ref fRI) = true) (bRI : Binds K fdRI ["_law_stock", "_law_sorts", "_law_ends", "_law_corners", "_law_legs"] []) (gRI : mg "_law_right" = some (.ref fRI)) :
    FnOk P w K mg base CX0 10 f fd ["_law_script"] (spLaw K) := by
  refine F.ok scLaw (fun vs H Q E h => ?_) (fun cdv A outer s H vs Q E hr h => ?_)
  · obtain ⟨a, ns, rfl, _⟩ := h
    rfl
  · obtain ⟨a, ns, rfl, hS, hlen, k⟩ := h
    have hr1 : Room 1 (A.deeper (envOfC "law" (defScope sLaw) s.heap.objs.size f cdv)) := hr.mono (by decide)
    have hr3 : Room 3 (A.deeper (envOfC "law" (defScope sLaw) s.heap.objs.size f cdv)) := hr.mono (by decide)
    have hr6 : Room 6 (A.deeper (envOfC "law" (defScope sLaw) s.heap.objs.size f cdv)) := hr.mono (by decide)
    have hr9 : Room 9 (A.deeper (envOfC "law" (defScope sLaw) s.heap.objs.size f cdv)) := hr
    refine ⟨_, (pss_cons (ps_for PassesOwn.never rfl (pi_list (pe_op op_cat (pe_slice sl_list (pv 0) po_none (po_some pe_int)) (pe_lst (pa_cons pe_int pa_nil)))) (pg_name (i := 1) scLaw.nd rfl (Or.inl rfl)) (pss_cons (ps_set (i := 2) scLaw.nd rfl (Or.inl rfl) (pe_call GS hr1 (by rfl) gS kS bS .nil pass0 (pa_cons (pv 1) pa_nil)))
      (pss_cons (ps_set (i := 3) scLaw.nd rfl (Or.inl rfl) (pe_ix ix_list (pe_lst (pa_cons pe_int (pa_cons pe_int (pa_cons pe_int (pa_cons pe_int (pa_cons pe_int (pa_cons pe_int pa_nil))))))) (pe_call GN hr1 (by rfl) gN kN bN .nil pass0 (pa_cons (pv 2) (pa_cons pe_int pa_nil))) (fun _ _ => rfl)))
      (pss_cons (ps_asg (pe_call GR hr3 (by rfl) gR kR bR .nil pass0 (pa_cons (pv 2) (pa_cons pe_int pa_nil))) (pg_tup rfl (pgs_cons (pg_name (i := 4) scLaw.nd rfl (Or.inl rfl)) (pgs_cons (pg_name (i := 5) scLaw.nd rfl (Or.inl rfl)) pgs_nil))))
      (pss_cons (ps_asg (pe_call GD hr3 (by rfl) gD kD bD .nil pass0 (pa_cons (pv 2) (pa_cons (pv 4) (pa_cons (pv 5) (pa_cons pe_int (pa_cons (pv 3) pa_nil)))))) (pg_tup rfl (pgs_cons (pg_name (i := 6) scLaw.nd rfl (Or.inl rfl)) (pgs_cons (pg_name (i := 7) scLaw.nd rfl (Or.inl rfl)) pgs_nil))))
      (pss_cons (ps_set (i := 8) scLaw.nd rfl (Or.inl rfl) (pe_call GN hr1 (by rfl) gN kN bN .nil pass0 (pa_cons (pv 2) (pa_cons pe_int pa_nil))))
      (pss_cons (ps_if (pt_cmpR op_eq (pv 8) pe_int (nomark _)) (pss_one (ps_set (i := 7) scLaw.nd rfl (Or.inl rfl) (pe_slice sl_list (pv 7) (po_some pe_int) po_none))) pss_nil)
      (pss_cons (ps_if (PW.pt (pw_and (pt_cmpR op_eq (pv 8) pe_int (nomark _)) (pw_and (pt_cmpR op_lt (pe_callB call_len_seq (by rfl) M.len PySem.boot_len (pa_cons (pv 7) pa_nil)) pe_int (nomark _)) (pw_and1 (pt_cmpR op_lt (pe_callB call_len_seq (by rfl) M.len PySem.boot_len (pa_cons (pe_call GT hr1 (by rfl) gT kT bT .nil pass0 (pa_cons (pv 5) (pa_cons (pv 6) (pa_cons (pv 7) pa_nil)))) pa_nil)) (pv 3) (nomark _)))))) (pss_one (ps_set (i := 7) scLaw.nd rfl (Or.inl rfl) (pe_callB (cr_sortD hr.units) (by rfl) M.srt (by decide +kernel) (pa_cons (pe_op op_cat (pv 7) (pe_lst (pa_cons (pe_tup (pa_cons pe_str (pa_cons (pe_ix ix_tup (pe_ix ix_list (pv 4) (pe_call GN hr1 (by rfl) gN kN bN .nil pass0 (pa_cons (pv 2) (pa_cons (pe_callB call_len_seq (by rfl) M.len PySem.boot_len (pa_cons (pv 4) pa_nil)) pa_nil))) (fun _ _ => rfl)) pe_int (fun _ _ => rfl)) pa_nil))) pa_nil))) pa_nil)))) pss_nil)
      (pss_one (ps_if (pt_not (pt_val (pe_call GRI hr9 (by rfl) gRI kRI bRI .nil pass0 (pa_cons (pe_makeS (E := noE) mak GI hr6 (by rfl) T.mgC bI (fun σ => passN σ) (pa_cons (pv 4) (pa_cons (pv 5) pa_nil))) (pa_cons (pv 4) (pa_cons (pe_call GT hr1 (by rfl) gT kT bT .nil pass0 (pa_cons (pv 5) (pa_cons (pv 6) (pa_cons (pv 7) pa_nil)))) (pa_cons (pv 6) (pa_cons (pv 7) pa_nil)))))))) (pss_one (ps_ret pe_bl)) pss_nil))))))))))
      (pss_one (ps_ret pe_bl))), ?_⟩
    have hcut : (cutV (ns.map V.int) none (some 3)).length ≤ 63 := Nat.le_trans (cutV_length _ _ _) (by rw [List.length_map]; exact hlen)
    have hints : ∀ z ∈ cutV (ns.map V.int) none (some 3) ++ [V.int 5], ∃ n : Int, z = .int n := fun z hz => by
      rcases List.mem_append.mp hz with q | q
      · exact cut_ints ns 3 z q
      · exact ⟨5, by simpa using q⟩
    refine ⟨_, rfl, 3, rfl, a, ns.map V.int, rfl, hS, fun p0 n0 => ?_⟩
    refine ⟨by show 1 ≤ sizeLine; decide, fun p1 n1 => ?_⟩
    refine ⟨p0, p1, _, _, rfl, rfl, (same_new n1) _ _ upd_same, upd_same, ?_, fun L nL => ?_⟩
    · rw [sizeLine_eq]
      show (cutV (ns.map V.int) none (some 3)).length + 1 ≤ 16777216
      omega
    generalize cutV (ns.map V.int) none (some 3) ++ [V.int 5] = XS at hints ⊢
    refine ⟨L, rfl, ⟨_, SqL.of upd_same⟩, for_list (K := K) (a := L) (xs := XS) (fun i σ H' => (∃ y1 y2 y3 y4 y5 y6 y7 y8, σ = [some (V.ref a), y1, y2, y3, y4, y5, y6, y7, y8]) ∧ H' L = some (.lst XS))
      ⟨⟨_, _, _, _, _, _, _, _, rfl⟩, upd_same⟩ (fun i σ H' _ h => SqL.of h.2) ?_ ?_⟩
    · rintro i0 y σ H1 hy ⟨⟨y1, y2, y3, y4, y5, y6, y7, y8, rfl⟩, hL⟩
      obtain ⟨z, rfl⟩ := hints y (List.mem_of_getElem? hy)
      refine ⟨_, rfl, z, rfl, fun p H2 np hp s2 => ?_⟩
      have nLp : L ≠ p := ne_of_none hL np
      have hL2 := s2 _ _ hL
      clear hL s2
      -- how far
      refine ⟨by show 6 ≤ sizeLine; decide, fun me nme => ?_⟩
      have t3 := same_new (o := .lst [.int 6, .int 8, .int 8, .int 8, .int 8, .int 10]) nme
      have hm3 : upd H2 me (.lst [.int 6, .int 8, .int 8, .int 8, .int 8, .int 10]) me = some (.lst [.int 6, .int 8, .int 8, .int 8, .int 8, .int 10]) := upd_same
      have nmp : me ≠ p := fun q => by rw [q] at nme; obtain ⟨x1, x2, x3, e, _⟩ := hp; rw [e] at nme; cases nme
      have hp3 := hp.same t3
      have hL3 := t3 _ _ hL2
      generalize upd H2 me (.lst [.int 6, .int 8, .int 8, .int 8, .int 8, .int 10]) = H3 at t3 hm3 hp3 hL3 ⊢
      refine ⟨_, rfl, p, 6, _, rfl, hp3, by decide, by decide, by decide, fun r H4 r0 r1 hp4 o4 => ?_⟩
      obtain ⟨r, rfl⟩ := Int.eq_ofNat_of_zero_le r0
      have hL4 := o4 _ _ hL3 nLp
      obtain ⟨far, efar, f0, f10⟩ : ∃ far : Int, ([.int 6, .int 8, .int 8, .int 8, .int 8, .int 10] : List V)[r]? = some (.int far) ∧ 0 ≤ far ∧ far ≤ 10 := by
        have h6 : r = 0 ∨ r = 1 ∨ r = 2 ∨ r = 3 ∨ r = 4 ∨ r = 5 := by omega
        rcases h6 with rfl | rfl | rfl | rfl | rfl | rfl
        · exact ⟨6, rfl, by decide, by decide⟩
        · exact ⟨8, rfl, by decide, by decide⟩
        · exact ⟨8, rfl, by decide, by decide⟩
        · exact ⟨8, rfl, by decide, by decide⟩
        · exact ⟨8, rfl, by decide, by decide⟩
        · exact ⟨10, rfl, by decide, by decide⟩
      refine ⟨me, _, _, .int far, rfl, rfl, SqL.of (o4 _ _ hm3 nmp), at_of rfl efar, ?_⟩
      refine gn_go ?_
      clear hm3 hp3 hL3 o4 t3 hp hL2 r0 r1
      refine ⟨_, rfl, p, _, 4, rfl, hp4, by decide, by decide, by decide, fun t ls lk rows ks HS gd gk l1k l3k lk5 wk hkn et ds dk hpS oS => ?_⟩
      have hLS : HS L = some (.lst XS) := oS _ _ hL4 nLp
      refine ⟨t, _, rfl, SqT.of (del_sub _ _ et), rfl, _, _, rfl, _, _, rfl, rfl, ?_⟩
      obtain ⟨ws, hw, kn⟩ := hkn
      have hw := del_sub _ _ hw
      have kn := knds_same del_sub kn
      have ds := ds.same (del_sub (p := p) (H := HS))
      have dk := dk.same (del_sub (p := p) (H := HS))
      clear hL4 hp4 et oS
      have mu := mut_of gd
      obtain ⟨g1, g3, gnm, gnd, gmu⟩ := good_rows gd
      have nlk := knds_src hpS hw kn
      have nls := rows_src hpS ds
      have k5 : ∀ kr ∈ ks, kr.2.length ≤ 5 := fun kr hk => (gk.en kr hk).2.1
      have rn : ∀ x ∈ rows.map (·.1), nameS x = true := fun x hx => by
        obtain ⟨r, hr_, e⟩ := List.mem_map.mp hx
        rw [← e]
        exact (gnm r hr_).1
      refine ⟨_, rfl, _, rfl, _, rfl, _, rfl, p, ls, lk, 4, far, _, rows, ks, ws, rfl, hpS, by decide, by decide, ds, gd, mu, hw, kn, gk, l1k, by omega, fun t2 c g cs lg HG lc hcs LG lastg bal lfar ht2 nt2 hc ncp dg ngp hpG oG => ?_⟩
      refine ⟨t2, _, rfl, SqT.of ht2, rfl, _, _, rfl, _, _, rfl, rfl, ?_⟩
      have lfar := lfar f0
      have dsG := ds.off hpS (noInt_rows rows) oG
      have dkG := dk.off hpS (noInt_kinds ks) oG
      have hwG := oG _ _ hw nlk
      have knG := knds_off hpS kn oG
      have hLG := oG _ _ hLS nLp
      have zz : ∀ g ∈ lg, g.1 ≠ zzS := fun g hg => zz_last (lastg g hg)
      clear ds dk hw kn hLS hpS oG ht2
      refine ⟨_, rfl, p, 6, _, rfl, hpG, by decide, by decide, by decide, fun r H3 r0 r1 hp3 o3 => ?_⟩
      have ds3 := dsG.off hpG (noInt_rows rows) o3
      have dk3 := dkG.off hpG (noInt_kinds ks) o3
      have dg3 := dg.off hpG (noInt_rows lg) o3
      have hw3 := o3 _ _ hwG nlk
      have kn3 := knds_off hpG knG o3
      have hL3 := o3 _ _ hLG nLp
      have hc3 := o3 _ _ hc ncp
      clear dsG dkG hwG knG hLG dg hc hpG o3
      -- a leg less
      refine gn_go ?_
      dsimp only
      refine seq_rest (t := tIfS _ _ _) (fun σ' H' => ∃ g' lg', σ' = [some (V.ref a), some (.int z), some (.ref p), some (.int far), some (.ref ls), some (.ref lk), some (.ref c), some (.ref g'), some (.int r)] ∧ Same H3 H' ∧ Dt H' (.ref g') (.list (lg'.map rowT)) ∧ LegsG rows lg' ∧ (∀ g ∈ lg', g.1 ≠ zzS) ∧ (((sortsE ks cs lg').length : Nat) : Int) ≤ far) (fun rest => ?_) ?_
      · refine ⟨_, rfl, rfl, _, rfl, ite2 (fun cc => ?_) (fun cc => ?_)⟩
        · obtain ⟨gs, eg, lgs, rg⟩ := dt_list dg3
          refine ⟨_, rfl, 1, rfl, g, _, rfl, SqL.of eg, fun u nu => ?_⟩
          refine rest _ _ ⟨u, lg.tail, rfl, same_new nu, ?_, LG.tail, fun g hg => zz g (List.mem_of_mem_tail hg), ?_⟩
          · have rg2 := rg.same (same_new (o := .lst (cutV gs (some 1) none)) nu)
            have dt1 : DtAll (upd H3 u (.lst (cutV gs (some 1) none))) (cutV gs (some 1) none) (lg.tail.map rowT) := by
              generalize upd H3 u (.lst (cutV gs (some 1) none)) = HH at rg2
              cases lg with
              | nil =>
                cases rg2
                exact .nil
              | cons g0 lg =>
                cases rg2 with
                | cons h1 h2 =>
                  rw [cut_tail]
                  exact h2
            exact .lst upd_same (Nat.le_trans (cutV_length _ _ _) lgs) dt1
          · have q : (sortsE ks cs lg.tail).length ≤ (sortsE ks cs lg).length := by
              unfold sortsE
              rw [List.length_append, List.length_append, List.length_map, List.length_map, List.length_tail]
              omega
            omega
        · exact rest _ _ ⟨g, lg, rfl, Same.refl _, dg3, LG, zz, lfar⟩
      rintro σ H4 ⟨g', lg', rfl, s4, dg4, LG4, zz4, lfar4⟩
      clear dg3 LG zz lfar bal lastg
      have hp4 := hp3.same s4
      have ds4 := ds3.same s4
      have dk4 := dk3.same s4
      have hw4 := s4 _ _ hw3
      have kn4 := knds_same s4 kn3
      have hL4 := s4 _ _ hL3
      have hc4 := s4 _ _ hc3
      clear ds3 dk3 hw3 kn3 hL3 hc3 hp3 s4
      refine seq_rest (t := tIfS _ _ _) (fun σ' H' => ∃ g' lg', σ' = [some (V.ref a), some (.int z), some (.ref p), some (.int far), some (.ref ls), some (.ref lk), some (.ref c), some (.ref g'), some (.int r)] ∧ Off p H4 H' ∧ Dt H' (.ref g') (.list (lg'.map rowT)) ∧ LegsG rows lg' ∧ (((sortsE ks cs lg').length : Nat) : Int) ≤ far) (fun rest => ?_) ?_
      · refine ⟨_, rfl, rfl, _, rfl, ?_⟩
        dsimp only
        split
        · obtain ⟨gs, eg, lgs, rg⟩ := dt_list dg4
          have lgl : gs.length = lg'.length := by rw [rg.len, List.length_map]
          refine ⟨_, rfl, g', _, rfl, .inl (SqL.of eg), _, _, rfl, rfl, _, rfl, ?_⟩
          dsimp only
          split
          · rename_i hlt
            have l5 : lg'.length < 6 := by
              have q := of_decide_eq_true hlt
              omega
            refine ⟨_, rfl, _, rfl, _, rfl, lk, c, g', ks, ws, cs, lg', rfl, hw4, kn4, gk.nd, k5, hc4, by omega, hcs, dg4, by omega, fun q5 H5 es5 nq5 s5 hq5 ev5 => ?_⟩
            refine ⟨q5, _, rfl, .inl (SqL.of hq5), _, rfl, _, _, rfl, rfl, _, rfl, ?_⟩
            have dg5 := dg4.same s5
            dsimp only
            split
            · rename_i hfar
              have l9 : (((sortsE ks cs lg').length : Nat) : Int) < far := by
                have q := of_decide_eq_true hfar
                rw [ev5.len] at q
                rw [← allE_sorts, List.length_map]
                exact q
              have hp5 := hp4.same s5
              have ds5 := ds4.same s5
              have ngp5 : g' ≠ p := rows_src hp5 dg5
              obtain ⟨zs, ez, lz, rz⟩ := dt_list ds5
              have lenz : zs.length = rows.length := by rw [rz.len, List.length_map]
              refine ⟨_, rfl, _, rfl, _, rfl, _, rfl, ls, zs, rfl, .inl (SqL.of ez), p, (zs.length : Int), _, rfl, hp5, by omega, by omega, by decide, fun y H13 y0 y1 hp13 o13 => ?_⟩
              obtain ⟨y, rfl⟩ := Int.eq_ofNat_of_zero_le y0
              have hy : y < zs.length := by omega
              obtain ⟨q, rr, hr_, eqv, tq⟩ := row_mem rz (List.getElem_mem hy)
              refine ⟨ls, zs, _, .ref q, rfl, rfl, SqL.of (o13 _ _ ez nls), at_of rfl (by rw [List.getElem?_eq_getElem hy, eqv]), ?_⟩
              refine ⟨q, _, 0, _, rfl, rfl, (tq.off o13 (TupAt.src hp5 tq)).sq, ix0, ?_⟩
              have dg13 := dg5.off hp5 (noInt_rows lg') o13
              refine ⟨by show 2 ≤ sizeLine; decide, fun u nu => ?_⟩
              have t1 := same_new (o := .tup [.str ("zz" : Str), .str rr.1]) nu
              have du : Dt (upd H13 u (.tup [.str ("zz" : Str), .str rr.1])) (.ref u) (rowT (zzS, rr.1)) := dt_row zz_name (gnm rr hr_).1 upd_same
              have dg14 := dg13.same t1
              have o14 := (Same.off s5).trans (o13.trans (Same.off t1))
              refine ⟨by show 1 ≤ sizeLine; decide, fun u2 nu2 => ?_⟩
              have t2' := same_new (o := .lst [.ref u]) nu2
              have du2 := du.same t2'
              have dg15 := dg14.same t2'
              have o15 := o14.trans (Same.off t2')
              have hu2 : upd (upd H13 u (.tup [.str ("zz" : Str), .str rr.1])) u2 (.lst [.ref u]) u2 = some (.lst [.ref u]) := upd_same
              generalize upd (upd H13 u (.tup [.str ("zz" : Str), .str rr.1])) u2 (.lst [.ref u]) = H15 at t2' du2 dg15 o15 hu2 ⊢
              obtain ⟨gs2, eg2, lgs2, rg2⟩ := dt_list dg15
              refine ⟨g', u2, _, _, rfl, rfl, eg2, hu2, ?_, fun so nso => ?_⟩
              · rw [sizeLine_eq]
                show gs2.length + 1 ≤ 16777216
                omega
              have t3 := same_new (o := .lst (gs2 ++ [.ref u])) nso
              have dso : Dt (upd H15 so (.lst (gs2 ++ [.ref u]))) (.ref so) (.list ((lg' ++ [(zzS, rr.1)]).map rowT)) := by
                rw [List.map_append]
                refine .lst upd_same ?_ ((rg2.app (.cons du2 .nil)).same t3)
                have q := rg2.len
                rw [List.length_map] at q
                rw [List.length_append, List.length_singleton]
                omega
              delta tNil
              dsimp only
              refine sort_ok dso (fun d hd => by obtain ⟨g, _, rfl⟩ := List.mem_map.mp hd; exact low_rowT g) (alike_rows _) (sortable_rows _) fun pz H16 dpz s16 => ?_
              rw [sortD_R] at dpz
              refine rest _ _ ⟨pz, sortR (lg' ++ [(zzS, rr.1)]), rfl, o15.trans (Same.off (t3.trans s16)), dpz, LegsG.sorted (by rw [List.length_append, List.length_singleton]; omega) ?_ ?_ ?_, ?_⟩
              · rw [List.map_append, List.nodup_append]
                refine ⟨LG4.nd, by simp, fun x hx y hy2 => ?_⟩
                have ey : y = zzS := by simpa using hy2
                obtain ⟨g0, hg0, e0⟩ := List.mem_map.mp hx
                rw [ey, ← e0]
                exact zz4 g0 hg0
              · intro x hx
                rcases List.mem_append.mp hx with h | h
                · exact LG4.nm x h
                · rw [List.mem_singleton.mp h]
                  exact zz_name
              · intro x hx
                rcases List.mem_append.mp hx with h | h
                · exact LG4.so x h
                · rw [List.mem_singleton.mp h]
                  exact List.mem_map_of_mem (f := (·.1)) hr_
              · have q : (sortsE ks cs (sortR (lg' ++ [(zzS, rr.1)]))).length = (sortsE ks cs lg').length + 1 := by
                  unfold sortsE
                  rw [List.length_append, List.length_append, List.length_map, List.length_map, (sortR_perm _).length_eq, List.length_append, List.length_singleton]
                  omega
                rw [q]
                omega
            · exact rest _ _ ⟨g', lg', rfl, Same.off s5, dg5, LG4, lfar4⟩
          · exact rest _ _ ⟨g', lg', rfl, Same.off (Same.refl _), dg4, LG4, lfar4⟩
        · exact rest _ _ ⟨g', lg', rfl, Same.off (Same.refl _), dg4, LG4, lfar4⟩
      rintro σ H5 ⟨g5, lg5, rfl, o5, dg5, LG5, lfar5⟩
      clear dg4 LG4 zz4 lfar4
      have ds5 := ds4.off hp4 (noInt_rows rows) o5
      have dk5 := dk4.off hp4 (noInt_kinds ks) o5
      have hw5 := o5 _ _ hw4 nlk
      have kn5 := knds_off hp4 kn4 o5
      have hL5 := o5 _ _ hL4 nLp
      have hc5 := o5 _ _ hc4 ncp
      clear ds4 dk4 hw4 kn4 hL4 hc4 hp4 o5
      refine ⟨_, rfl, _, rfl, fun x dx nx ndx ne => make_stk nx ndx ne ds5 dk5 hw5 kn5 gd gk l1k (by omega) fun HT sg sT => ⟨rfl, ?_⟩⟩
      refine ⟨_, rfl, _, rfl, _, rfl, _, rfl, lk, c, g5, ks, ws, cs, lg5, rfl, sT _ _ hw5, knds_same sT kn5, gk.nd, k5, sT _ _ hc5, by omega, hcs, dg5.same sT, LG5.l6, fun q HE es' nq sE hq ev => ?_⟩
      have sTE := sT.trans sE
      have l10 : (allE ks cs lg5).length ≤ 10 := by
        have e := congrArg List.length (allE_sorts ks cs lg5)
        rw [List.length_map] at e
        rw [e]
        omega
      refine ⟨_, rfl, _, rfl, x, ls, q, c, g5, rows, ks, es', cs, lg5, rfl, sg.same sE, ds5.same sTE, gd, mu, gk, hq, ev, by omega, hcs, sTE _ _ hc5, dg5.same sTE, LG5, l10, fun HR sR => ?_⟩
      refine ⟨_, rfl, ?_⟩
      dsimp only
      rw [if_neg (by decide)]
      exact ⟨⟨_, _, _, _, _, _, _, _, rfl⟩, (sTE.trans sR) _ _ hL5⟩
    · rintro σ H1 ⟨⟨y1, y2, y3, y4, y5, y6, y7, y8, rfl⟩, hL⟩
      exact k _
end
end Toy
set_option Elab.async false
set_option linter.all false
set_option maxRecDepth 100000
set_option maxHeartbeats 4000000
namespace Toy
open PySem PySem.Spec PyProof.Rows L2
/-! ### what the top has left -/
def stkB (K : PySem.W.Frag) (C fI : Addr) : Bool :=
  (PySem.W.plainGet K C Str.empty && PySem.W.hasDictIn K C && PySem.W.plainOver K C && (PySem.W.findIn K (.ref C) "__setattr__" == some (some (.builtin "object.__setattr__"))))
  && ((PySem.W.findIn K (.ref C) "sorts" == some none) && (PySem.W.findIn K (.ref C) "kinds" == some none))
  && ((PySem.W.findIn K (.ref C) "__class__" == some (some (.builtin "object.__class__"))) && (PySem.W.specialIn K (.builtin "object.__class__") "__get__" == some (some (.builtin "getset_descriptor.__get__"))) && (PySem.W.takesIn K (.builtin "object.__class__") == some true) && (PySem.W.mroIn K C (.type "object") == some true))
  && ((PySem.W.kitOne K (.ref C) (.ref C) == some true) && PySem.W.makesIn K C && (PySem.W.findIn K (.ref C) "__init__" == some (some (.ref fI))) && PySem.W.isFn K (.ref fI) && PySem.W.keepIn K (.ref C))
def nosB (K : PySem.W.Frag) (N fX : Addr) : Bool :=
  ((PySem.W.findIn K (.ref N) "__setattr__" == some (some (.builtin "object.__setattr__"))) && (PySem.W.subIn K (.ref N) (.type "BaseException") == some true) && (PySem.W.typeIn K (.ref N) == some (.type "type")) && PySem.W.keepIn K (.ref N))
  && ((PySem.W.findIn K (.ref N) "part" == some none) && (PySem.W.findIn K (.ref N) "__init__" == some (some (.ref fX))) && (PySem.W.typeIn K (.ref fX) == some (.type "function")))
theorem nos_of {K : PySem.W.Frag} {mg : Str → Option Value} {N fX : Addr} {nm qn : Str} {N0 : Addr} {bs bm sub : List Value} {sn : List Str} {ab : Bool} {col : Option Bool} {dd : Option Addr} {u v w x y : Option Value}
    (h2 : nosB K N fX = true) (xl : K.lookup N = some (excClassObj nm qn N N0 bs bm true sn sub ab col dd u v w x y "ValueError.__new__")) (rb : PySem.HandSPX.refsVE bm = true) :
    OexC K N ∧ PySem.W.findIn K (.ref N) "part" = some none ∧ PySem.W.findIn K (.ref N) "__init__" = some (some (.ref fX)) ∧ PySem.W.typeIn K (.ref fX) = some (.type "function") := by
  unfold nosB at h2
  simp only [Bool.and_eq_true, beq_iff_eq] at h2
  obtain ⟨⟨⟨⟨k1, i3⟩, k2⟩, k3⟩, ⟨⟨l1, l2⟩, l3⟩⟩ := h2
  exact ⟨⟨⟨_, _, _, _, _, _, _, _, _, _, _, _, _, _, _, xl, rb⟩, k1, i3, k2, k3⟩, l1, l2, l3⟩
theorem stk_of {K : PySem.W.Frag} {mg : Str → Option Value} {C N fI fX : Addr} (h1 : stkB K C fI = true) (hN : OexC K N ∧ PySem.W.findIn K (.ref N) "part" = some none ∧ PySem.W.findIn K (.ref N) "__init__" = some (some (.ref fX)) ∧ PySem.W.typeIn K (.ref fX) = some (.type "function"))
    (mC : mg "Stock" = some (.ref C)) (mN : mg "NoStock" = some (.ref N)) : StkC K mg C N fX ∧ Mk K C fI := by
  unfold stkB at h1
  simp only [Bool.and_eq_true, beq_iff_eq] at h1
  obtain ⟨⟨⟨⟨⟨⟨a1, a2⟩, a3⟩, a4⟩, ⟨b1, b2⟩⟩, ⟨⟨⟨c1, c2⟩, c3⟩, c4⟩⟩, ⟨⟨⟨⟨d1, d2⟩, d3⟩, d4⟩, d5⟩⟩ := h1
  obtain ⟨n1, n2, n3, n4⟩ := hN
  exact ⟨⟨⟨a1, a2, a3, a4⟩, b1, b2, mC, c1, c2, c3, c4, d1, n1, n2, n3, n4, mN⟩, ⟨d2, d3, d4, d5⟩⟩
theorem scNoSt : FnScope ["self", "part"] ["self", "part"] (defScope sNoSt) := ⟨rfl, rfl, rfl, by decide +kernel, rfl, by decide +kernel, by decide +kernel⟩
theorem scNoDr : FnScope ["self", "part"] ["self", "part"] (defScope sNoDr) := ⟨rfl, rfl, rfl, by decide +kernel, rfl, by decide +kernel, by decide +kernel⟩
theorem all_mk {l : PySem.W.OpenLaw} {w : World} {K : PySem.W.Frag} {h : Heap} {mg : Str → Option Value}
    {fa C CN CD fn fp fl fu fe fk fK fs fI fX fV fP fc fg fi fS fN fW fR fE fO fY fA fa6 fa7 fa8 fT fm fD fq fr fL : Addr}
    {odn ann odp anp odl anl odu anu ode ane odk ank odK anK ods ans odI anI odX anX odV anV odP anP odc anc odg ang odi ani odS anS odN anN odW anW odR anR odE anE odO anO odY anY odA anA oda6 ana6 oda7 ana7 oda8 ana8 odT anT odm anm odD anD odq anq odr anr odL anL : Option Addr}
    {sln slp sll slu sle slk slK sls slI slX slV slP slc slg sli slS slN slW slR slE slO slY slA sla6 sla7 sla8 slT slm slD slq slr slL : Array (Option Value)}
    {ocn kVn dcn pmn cdn ctn ocp kVp dcp pmp cdp ctp ocl kVl dcl pml cdl ctl ocu kVu dcu pmu cdu ctu oce kVe dce pme cde cte ock kVk dck pmk cdk ctk ocK kVK dcK pmK cdK ctK ocs kVs dcs pms cds cts ocI kVI dcI pmI cdI ctI ocX kVX dcX pmX cdX ctX ocV kVV dcV pmV cdV ctV ocP kVP dcP pmP cdP ctP occ kVc dcc pmc cdc ctc ocg kVg dcg pmg cdg ctg oci kVi dci pmi cdi cti ocS kVS dcS pmS cdS ctS ocN kVN dcN pmN cdN ctN ocW kVW dcW pmW cdW ctW ocR kVR dcR pmR cdR ctR ocE kVE dcE pmE cdE ctE ocO kVO dcO pmO cdO ctO ocY kVY dcY pmY cdY ctY ocA kVA dcA pmA cdA ctA oca6 kVa6 dca6 pma6 cda6 cta6 oca7 kVa7 dca7 pma7 cda7 cta7 oca8 kVa8 dca8 pma8 cda8 cta8 ocT kVT dcT pmT cdT ctT ocm kVm dcm pmm cdm ctm ocD kVD dcD pmD cdD ctD ocq kVq dcq pmq cdq ctq ocr kVr dcr pmr cdr ctr ocL kVL dcL pmL cdL ctL : Value}
    {nm1 qn1 : Str} {N01 : Addr} {bs1 bm1 sub1 : List Value} {sn1 : List Str} {ab1 : Bool} {col1 : Option Bool} {dd1 : Option Addr} {u_1 v_1 w_1 x_1 y_1 : Option Value}
    {nm2 qn2 : Str} {N02 : Addr} {bs2 bm2 sub2 : List Value} {sn2 : List Str} {ab2 : Bool} {col2 : Option Bool} {dd2 : Option Addr} {u_2 v_2 w_2 x_2 y_2 : Option Value}
    {t0 t1 t2 t3 t4 t5 t6 t7 : Tok}
    (X : K.In h) (G : h.Ns mainGlobals mg) (hfa : mg "law" = some (.ref fa))
    (aC : PySem.W.nsIn K mainGlobals "Stock" = some (some (.ref C)))
    (aCN : PySem.W.nsIn K mainGlobals "NoStock" = some (some (.ref CN)))
    (aCD : PySem.W.nsIn K mainGlobals "NoDrawing" = some (some (.ref CD)))
    (c0 : PySem.W.nsIn K mainGlobals "LETTERS" = some (some (.str LET t0)))
    (c1 : PySem.W.nsIn K mainGlobals "LONGEST_NAME" = some (some (.int 8 t1)))
    (c2 : PySem.W.nsIn K mainGlobals "MOST_SORTS" = some (some (.int 3 t2)))
    (c3 : PySem.W.nsIn K mainGlobals "MOST_KINDS" = some (some (.int 4 t3)))
    (c4 : PySem.W.nsIn K mainGlobals "MOST_ENDS" = some (some (.int 5 t4)))
    (c5 : PySem.W.nsIn K mainGlobals "MOST_CORNERS" = some (some (.int 6 t5)))
    (c6 : PySem.W.nsIn K mainGlobals "MOST_LEGS" = some (some (.int 6 t6)))
    (c7 : PySem.W.nsIn K mainGlobals "MOST_PAIRED_ENDS" = some (some (.int 10 t7)))
    (x0 : PySem.W.nsIn K mainGlobals "factorial" = some (some (.builtin "math.factorial")))
    (xl1 : K.lookup CN = some (excClassObj nm1 qn1 CN N01 bs1 bm1 true sn1 sub1 ab1 col1 dd1 u_1 v_1 w_1 x_1 y_1 "ValueError.__new__"))
    (rb1 : PySem.HandSPX.refsVE bm1 = true)
    (xl2 : K.lookup CD = some (excClassObj nm2 qn2 CD N02 bs2 bm2 true sn2 sub2 ab2 col2 dd2 u_2 v_2 w_2 x_2 y_2 "ValueError.__new__"))
    (rb2 : PySem.HandSPX.refsVE bm2 = true)
    (gn : PySem.W.nsIn K mainGlobals "is_name" = some (some (.ref fn)))
    (gp : PySem.W.nsIn K mainGlobals "is_pair" = some (some (.ref fp)))
    (gl : PySem.W.nsIn K mainGlobals "is_list" = some (some (.ref fl)))
    (gu : PySem.W.nsIn K mainGlobals "are_unlike" = some (some (.ref fu)))
    (ge : PySem.W.nsIn K mainGlobals "_are_ends" = some (some (.ref fe)))
    (gk : PySem.W.nsIn K mainGlobals "_is_kind" = some (some (.ref fk)))
    (gK : PySem.W.nsIn K mainGlobals "_are_kinds" = some (some (.ref fK)))
    (gs : PySem.W.nsIn K mainGlobals "_are_sorts" = some (some (.ref fs)))
    (gP : PySem.W.nsIn K mainGlobals "check_places" = some (some (.ref fP)))
    (gc : PySem.W.nsIn K mainGlobals "_are_corners" = some (some (.ref fc)))
    (gg : PySem.W.nsIn K mainGlobals "_are_legs" = some (some (.ref fg)))
    (gi : PySem.W.nsIn K mainGlobals "_is_leg" = some (some (.ref fi)))
    (gS : PySem.W.nsIn K mainGlobals "_law_state" = some (some (.ref fS)))
    (gN : PySem.W.nsIn K mainGlobals "_law_pick" = some (some (.ref fN)))
    (gW : PySem.W.nsIn K mainGlobals "_law_words" = some (some (.ref fW)))
    (gR : PySem.W.nsIn K mainGlobals "_law_stock_rows" = some (some (.ref fR)))
    (gE : PySem.W.nsIn K mainGlobals "all_ends" = some (some (.ref fE)))
    (gO : PySem.W.nsIn K mainGlobals "ways_alone" = some (some (.ref fO)))
    (gY : PySem.W.nsIn K mainGlobals "ways_across" = some (some (.ref fY)))
    (gA : PySem.W.nsIn K mainGlobals "count" = some (some (.ref fA)))
    (ga6 : PySem.W.nsIn K mainGlobals "_are_partners" = some (some (.ref fa6)))
    (ga7 : PySem.W.nsIn K mainGlobals "_paired" = some (some (.ref fa7)))
    (ga8 : PySem.W.nsIn K mainGlobals "pairings" = some (some (.ref fa8)))
    (gT : PySem.W.nsIn K mainGlobals "_law_there" = some (some (.ref fT)))
    (gm : PySem.W.nsIn K mainGlobals "_law_wanted" = some (some (.ref fm)))
    (gD : PySem.W.nsIn K mainGlobals "_law_grounds" = some (some (.ref fD)))
    (gq : PySem.W.nsIn K mainGlobals "_law_all_pairings" = some (some (.ref fq)))
    (gr : PySem.W.nsIn K mainGlobals "_law_right" = some (some (.ref fr)))
    (gL : PySem.W.nsIn K mainGlobals "law" = some (some (.ref fL)))
    (iI : PySem.W.findIn K (.ref C) "__init__" = some (some (.ref fI)))
    (iX : PySem.W.findIn K (.ref CN) "__init__" = some (some (.ref fX)))
    (iV : PySem.W.findIn K (.ref CD) "__init__" = some (some (.ref fV)))
    (ln : K.lookup fn = some ⟨ocn, odn, .func (PySem.W.fnOf "is_name" "is_name" (defArgs sName) (defBody sName) (defScope sName) .none kVn dcn pmn ann cdn ctn), sln⟩)
    (cn_ : PySem.W.codeIn K cdn "is_name" = true)
    (kn : PySem.W.keepIn K (.ref fn) = true)
    (lp : K.lookup fp = some ⟨ocp, odp, .func (PySem.W.fnOf "is_pair" "is_pair" (defArgs sPair) (defBody sPair) (defScope sPair) .none kVp dcp pmp anp cdp ctp), slp⟩)
    (cp_ : PySem.W.codeIn K cdp "is_pair" = true)
    (kp : PySem.W.keepIn K (.ref fp) = true)
    (ll : K.lookup fl = some ⟨ocl, odl, .func (PySem.W.fnOf "is_list" "is_list" (defArgs sList) (defBody sList) (defScope sList) .none kVl dcl pml anl cdl ctl), sll⟩)
    (cl_ : PySem.W.codeIn K cdl "is_list" = true)
    (kl : PySem.W.keepIn K (.ref fl) = true)
    (lu : K.lookup fu = some ⟨ocu, odu, .func (PySem.W.fnOf "are_unlike" "are_unlike" (defArgs sUnlike) (defBody sUnlike) (defScope sUnlike) .none kVu dcu pmu anu cdu ctu), slu⟩)
    (cu_ : PySem.W.codeIn K cdu "are_unlike" = true)
    (ku : PySem.W.keepIn K (.ref fu) = true)
    (le : K.lookup fe = some ⟨oce, ode, .func (PySem.W.fnOf "_are_ends" "_are_ends" (defArgs sEnds) (defBody sEnds) (defScope sEnds) .none kVe dce pme ane cde cte), sle⟩)
    (ce_ : PySem.W.codeIn K cde "_are_ends" = true)
    (ke : PySem.W.keepIn K (.ref fe) = true)
    (lk : K.lookup fk = some ⟨ock, odk, .func (PySem.W.fnOf "_is_kind" "_is_kind" (defArgs sKind) (defBody sKind) (defScope sKind) .none kVk dck pmk ank cdk ctk), slk⟩)
    (ck_ : PySem.W.codeIn K cdk "_is_kind" = true)
    (kk : PySem.W.keepIn K (.ref fk) = true)
    (lK : K.lookup fK = some ⟨ocK, odK, .func (PySem.W.fnOf "_are_kinds" "_are_kinds" (defArgs sKinds) (defBody sKinds) (defScope sKinds) .none kVK dcK pmK anK cdK ctK), slK⟩)
    (cK_ : PySem.W.codeIn K cdK "_are_kinds" = true)
    (kK : PySem.W.keepIn K (.ref fK) = true)
    (ls : K.lookup fs = some ⟨ocs, ods, .func (PySem.W.fnOf "_are_sorts" "_are_sorts" (defArgs sSorts) (defBody sSorts) (defScope sSorts) .none kVs dcs pms ans cds cts), sls⟩)
    (cs_ : PySem.W.codeIn K cds "_are_sorts" = true)
    (ks : PySem.W.keepIn K (.ref fs) = true)
    (lI : K.lookup fI = some ⟨ocI, odI, .func (PySem.W.fnOf "__init__" "Stock.__init__" (defArgs sInit) (defBody sInit) (defScope sInit) .none kVI dcI pmI anI cdI ctI), slI⟩)
    (cI_ : PySem.W.codeIn K cdI "Stock.__init__" = true)
    (kI : PySem.W.keepIn K (.ref fI) = true)
    (lX : K.lookup fX = some ⟨ocX, odX, .func (PySem.W.fnOf "__init__" "NoStock.__init__" (defArgs sNoSt) (defBody sNoSt) (defScope sNoSt) .none kVX dcX pmX anX cdX ctX), slX⟩)
    (cX_ : PySem.W.codeIn K cdX "NoStock.__init__" = true)
    (kX : PySem.W.keepIn K (.ref fX) = true)
    (lV : K.lookup fV = some ⟨ocV, odV, .func (PySem.W.fnOf "__init__" "NoDrawing.__init__" (defArgs sNoDr) (defBody sNoDr) (defScope sNoDr) .none kVV dcV pmV anV cdV ctV), slV⟩)
    (cV_ : PySem.W.codeIn K cdV "NoDrawing.__init__" = true)
    (kV : PySem.W.keepIn K (.ref fV) = true)
    (lP : K.lookup fP = some ⟨ocP, odP, .func (PySem.W.fnOf "check_places" "check_places" (defArgs sPlaces) (defBody sPlaces) (defScope sPlaces) .none kVP dcP pmP anP cdP ctP), slP⟩)
    (cP_ : PySem.W.codeIn K cdP "check_places" = true)
    (kP : PySem.W.keepIn K (.ref fP) = true)
    (lc : K.lookup fc = some ⟨occ, odc, .func (PySem.W.fnOf "_are_corners" "_are_corners" (defArgs sCorners) (defBody sCorners) (defScope sCorners) .none kVc dcc pmc anc cdc ctc), slc⟩)
    (cc_ : PySem.W.codeIn K cdc "_are_corners" = true)
    (kc : PySem.W.keepIn K (.ref fc) = true)
    (lg : K.lookup fg = some ⟨ocg, odg, .func (PySem.W.fnOf "_are_legs" "_are_legs" (defArgs sLegs) (defBody sLegs) (defScope sLegs) .none kVg dcg pmg ang cdg ctg), slg⟩)
    (cg_ : PySem.W.codeIn K cdg "_are_legs" = true)
    (kg : PySem.W.keepIn K (.ref fg) = true)
    (li : K.lookup fi = some ⟨oci, odi, .func (PySem.W.fnOf "_is_leg" "_is_leg" (defArgs sIsLeg) (defBody sIsLeg) (defScope sIsLeg) .none kVi dci pmi ani cdi cti), sli⟩)
    (ci_ : PySem.W.codeIn K cdi "_is_leg" = true)
    (ki : PySem.W.keepIn K (.ref fi) = true)
    (lS : K.lookup fS = some ⟨ocS, odS, .func (PySem.W.fnOf "_law_state" "_law_state" (defArgs sState) (defBody sState) (defScope sState) .none kVS dcS pmS anS cdS ctS), slS⟩)
    (cS_ : PySem.W.codeIn K cdS "_law_state" = true)
    (kS : PySem.W.keepIn K (.ref fS) = true)
    (lN : K.lookup fN = some ⟨ocN, odN, .func (PySem.W.fnOf "_law_pick" "_law_pick" (defArgs sPick) (defBody sPick) (defScope sPick) .none kVN dcN pmN anN cdN ctN), slN⟩)
    (cN_ : PySem.W.codeIn K cdN "_law_pick" = true)
    (kN : PySem.W.keepIn K (.ref fN) = true)
    (lW : K.lookup fW = some ⟨ocW, odW, .func (PySem.W.fnOf "_law_words" "_law_words" (defArgs sWords) (defBody sWords) (defScope sWords) .none kVW dcW pmW anW cdW ctW), slW⟩)
    (cW_ : PySem.W.codeIn K cdW "_law_words" = true)
    (kW : PySem.W.keepIn K (.ref fW) = true)
    (lR : K.lookup fR = some ⟨ocR, odR, .func (PySem.W.fnOf "_law_stock_rows" "_law_stock_rows" (defArgs sRows) (defBody sRows) (defScope sRows) .none kVR dcR pmR anR cdR ctR), slR⟩)
    (cR_ : PySem.W.codeIn K cdR "_law_stock_rows" = true)
    (kR : PySem.W.keepIn K (.ref fR) = true)
    (lE : K.lookup fE = some ⟨ocE, odE, .func (PySem.W.fnOf "all_ends" "all_ends" (defArgs sAllEnds) (defBody sAllEnds) (defScope sAllEnds) .none kVE dcE pmE anE cdE ctE), slE⟩)
    (cE_ : PySem.W.codeIn K cdE "all_ends" = true)
    (kE : PySem.W.keepIn K (.ref fE) = true)
    (lO : K.lookup fO = some ⟨ocO, odO, .func (PySem.W.fnOf "ways_alone" "ways_alone" (defArgs sAlone) (defBody sAlone) (defScope sAlone) .none kVO dcO pmO anO cdO ctO), slO⟩)
    (cO_ : PySem.W.codeIn K cdO "ways_alone" = true)
    (kO : PySem.W.keepIn K (.ref fO) = true)
    (lY : K.lookup fY = some ⟨ocY, odY, .func (PySem.W.fnOf "ways_across" "ways_across" (defArgs sAcross) (defBody sAcross) (defScope sAcross) .none kVY dcY pmY anY cdY ctY), slY⟩)
    (cY_ : PySem.W.codeIn K cdY "ways_across" = true)
    (kY : PySem.W.keepIn K (.ref fY) = true)
    (lA : K.lookup fA = some ⟨ocA, odA, .func (PySem.W.fnOf "count" "count" (defArgs sCount) (defBody sCount) (defScope sCount) .none kVA dcA pmA anA cdA ctA), slA⟩)
    (cA_ : PySem.W.codeIn K cdA "count" = true)
    (kA : PySem.W.keepIn K (.ref fA) = true)
    (la6 : K.lookup fa6 = some ⟨oca6, oda6, .func (PySem.W.fnOf "_are_partners" "_are_partners" (defArgs sPartners) (defBody sPartners) (defScope sPartners) .none kVa6 dca6 pma6 ana6 cda6 cta6), sla6⟩)
    (ca6_ : PySem.W.codeIn K cda6 "_are_partners" = true)
    (ka6 : PySem.W.keepIn K (.ref fa6) = true)
    (la7 : K.lookup fa7 = some ⟨oca7, oda7, .func (PySem.W.fnOf "_paired" "_paired" (defArgs sPairedP) (defBody sPairedP) (defScope sPairedP) .none kVa7 dca7 pma7 ana7 cda7 cta7), sla7⟩)
    (ca7_ : PySem.W.codeIn K cda7 "_paired" = true)
    (ka7 : PySem.W.keepIn K (.ref fa7) = true)
    (la8 : K.lookup fa8 = some ⟨oca8, oda8, .func (PySem.W.fnOf "pairings" "pairings" (defArgs sPairings) (defBody sPairings) (defScope sPairings) .none kVa8 dca8 pma8 ana8 cda8 cta8), sla8⟩)
    (ca8_ : PySem.W.codeIn K cda8 "pairings" = true)
    (ka8 : PySem.W.keepIn K (.ref fa8) = true)
    (lT : K.lookup fT = some ⟨ocT, odT, .func (PySem.W.fnOf "_law_there" "_law_there" (defArgs sThere) (defBody sThere) (defScope sThere) .none kVT dcT pmT anT cdT ctT), slT⟩)
    (cT_ : PySem.W.codeIn K cdT "_law_there" = true)
    (kT : PySem.W.keepIn K (.ref fT) = true)
    (lm : K.lookup fm = some ⟨ocm, odm, .func (PySem.W.fnOf "_law_wanted" "_law_wanted" (defArgs sWanted) (defBody sWanted) (defScope sWanted) .none kVm dcm pmm anm cdm ctm), slm⟩)
    (cm_ : PySem.W.codeIn K cdm "_law_wanted" = true)
    (km : PySem.W.keepIn K (.ref fm) = true)
    (lD : K.lookup fD = some ⟨ocD, odD, .func (PySem.W.fnOf "_law_grounds" "_law_grounds" (defArgs sGrounds) (defBody sGrounds) (defScope sGrounds) .none kVD dcD pmD anD cdD ctD), slD⟩)
    (cD_ : PySem.W.codeIn K cdD "_law_grounds" = true)
    (kD : PySem.W.keepIn K (.ref fD) = true)
    (lq : K.lookup fq = some ⟨ocq, odq, .func (PySem.W.fnOf "_law_all_pairings" "_law_all_pairings" (defArgs sAllPairings) (defBody sAllPairings) (defScope sAllPairings) .none kVq dcq pmq anq cdq ctq), slq⟩)
    (cq_ : PySem.W.codeIn K cdq "_law_all_pairings" = true)
    (kq : PySem.W.keepIn K (.ref fq) = true)
    (lr : K.lookup fr = some ⟨ocr, odr, .func (PySem.W.fnOf "_law_right" "_law_right" (defArgs sRight) (defBody sRight) (defScope sRight) .none kVr dcr pmr anr cdr ctr), slr⟩)
    (cr_ : PySem.W.codeIn K cdr "_law_right" = true)
    (kr : PySem.W.keepIn K (.ref fr) = true)
    (lL : K.lookup fL = some ⟨ocL, odL, .func (PySem.W.fnOf "law" "law" (defArgs sLaw) (defBody sLaw) (defScope sLaw) .none kVL dcL pmL anL cdL ctL), slL⟩)
    (cL_ : PySem.W.codeIn K cdL "law" = true)
    (kL : PySem.W.keepIn K (.ref fL) = true)
    (tb1 : stkB K C fI = true)
    (tb2 : nosB K CN fX = true)
    (tb3 : nosB K CD fV = true)
    (z_abs : PySem.W.nsIn K mainGlobals "abs" = some none)
    (z_len : PySem.W.nsIn K mainGlobals "len" = some none)
    (z_range : PySem.W.nsIn K mainGlobals "range" = some none)
    (z_isinstance : PySem.W.nsIn K mainGlobals "isinstance" = some none)
    (z_str : PySem.W.nsIn K mainGlobals "str" = some none)
    (z_tuple : PySem.W.nsIn K mainGlobals "tuple" = some none)
    (z_list : PySem.W.nsIn K mainGlobals "list" = some none)
    (z_all : PySem.W.nsIn K mainGlobals "all" = some none)
    (z_set : PySem.W.nsIn K mainGlobals "set" = some none)
    (z_dict : PySem.W.nsIn K mainGlobals "dict" = some none)
    (z_sorted : PySem.W.nsIn K mainGlobals "sorted" = some none)
    (z_enumerate : PySem.W.nsIn K mainGlobals "enumerate" = some none)
    (z_max : PySem.W.nsIn K mainGlobals "max" = some none)
    (z_zip : PySem.W.nsIn K mainGlobals "zip" = some none) :
    ∃ fd : FuncData, (∀ (s : Shared) (v : Value), BindsTo s fd ⟨[v], []⟩ [("_law_script", v)]) ∧ ∀ base : Heap, K.In base → base.Ns mainGlobals mg → FnOk l.prog w K mg base CX0 10 fa fd ["_law_script"] (spLaw K) := by
  have e := hfa.symm.trans (PySem.W.mg_of X G gL)
  cases e
  have mo := fun {n : Str} {v : Value} (q : PySem.W.nsIn K mainGlobals n = some (some v)) => PySem.W.mg_of X G q
  have mz := fun {n : Str} (q : PySem.W.nsIn K mainGlobals n = some none) => PySem.W.mg_none_of X G q
  have oN := nos_of (mg := mg) tb2 xl1 rb1
  have oD := nos_of (mg := mg) tb3 xl2 rb2
  obtain ⟨T, mk⟩ := stk_of (mg := mg) tb1 oN (mo aC) (mo aCN)
  have N : NoDrC K mg CD fV := ⟨oD.1, oD.2.1, oD.2.2.1, oD.2.2.2, mo aCD⟩
  have M : Mods mg := ⟨⟨_, mo c0⟩, ⟨_, mo c1⟩, ⟨_, mo c2⟩, ⟨_, mo c3⟩, ⟨_, mo c4⟩, mz z_isinstance, mz z_str, mz z_tuple, mz z_list, mz z_len, mz z_all, mz z_set, mz z_dict, mz z_sorted⟩
  have Fn := fun_mk (st := sName) ln cn_ kn
  have Fp := fun_mk (st := sPair) lp cp_ kp
  have Fl := fun_mk (st := sList) ll cl_ kl
  have Fu := fun_mk (st := sUnlike) lu cu_ ku
  have Fe := fun_mk (st := sEnds) le ce_ ke
  have Fk := fun_mk (st := sKind) lk ck_ kk
  have FK := fun_mk (st := sKinds) lK cK_ kK
  have Fs := fun_mk (st := sSorts) ls cs_ ks
  have FI := fun_mk (st := sInit) lI cI_ kI
  have FX := fun_mk (st := sNoSt) lX cX_ kX
  have FV := fun_mk (st := sNoDr) lV cV_ kV
  have FP := fun_mk (st := sPlaces) lP cP_ kP
  have Fc := fun_mk (st := sCorners) lc cc_ kc
  have Fg := fun_mk (st := sLegs) lg cg_ kg
  have Fi := fun_mk (st := sIsLeg) li ci_ ki
  have FS := fun_mk (st := sState) lS cS_ kS
  have FN := fun_mk (st := sPick) lN cN_ kN
  have FW := fun_mk (st := sWords) lW cW_ kW
  have FR := fun_mk (st := sRows) lR cR_ kR
  have FE := fun_mk (st := sAllEnds) lE cE_ kE
  have FO := fun_mk (st := sAlone) lO cO_ kO
  have FY := fun_mk (st := sAcross) lY cY_ kY
  have FA := fun_mk (st := sCount) lA cA_ kA
  have Fa6 := fun_mk (st := sPartners) la6 ca6_ ka6
  have Fa7 := fun_mk (st := sPairedP) la7 ca7_ ka7
  have Fa8 := fun_mk (st := sPairings) la8 ca8_ ka8
  have FT := fun_mk (st := sThere) lT cT_ kT
  have Fm := fun_mk (st := sWanted) lm cm_ km
  have FD := fun_mk (st := sGrounds) lD cD_ kD
  have Fq := fun_mk (st := sAllPairings) lq cq_ kq
  have Fr := fun_mk (st := sRight) lr cr_ kr
  have FL := fun_mk (st := sLaw) lL cL_ kL
  have bn := Fn.binds (ps := ["thing"]) fun _ _ _ _ _ _ us hl => match us, hl with | [_], _ => rfl
  have bp := Fp.binds (ps := ["thing"]) fun _ _ _ _ _ _ us hl => match us, hl with | [_], _ => rfl
  have bl := Fl.binds (ps := ["thing", "fewest", "most"]) fun _ _ _ _ _ _ us hl => match us, hl with | [_, _, _], _ => rfl
  have bu := Fu.binds (ps := ["things"]) fun _ _ _ _ _ _ us hl => match us, hl with | [_], _ => rfl
  have be := Fe.binds (ps := ["ends", "partners"]) fun _ _ _ _ _ _ us hl => match us, hl with | [_, _], _ => rfl
  have bk := Fk.binds (ps := ["row", "partners"]) fun _ _ _ _ _ _ us hl => match us, hl with | [_, _], _ => rfl
  have bK := FK.binds (ps := ["kinds", "partners"]) fun _ _ _ _ _ _ us hl => match us, hl with | [_, _], _ => rfl
  have bs := Fs.binds (ps := ["sorts"]) fun _ _ _ _ _ _ us hl => match us, hl with | [_], _ => rfl
  have bI := FI.binds (ps := ["self", "sorts", "kinds"]) fun _ _ _ _ _ _ us hl => match us, hl with | [_, _, _], _ => rfl
  have bX := FX.binds (ps := ["self", "part"]) fun _ _ _ _ _ _ us hl => match us, hl with | [_, _], _ => rfl
  have bV := FV.binds (ps := ["self", "part"]) fun _ _ _ _ _ _ us hl => match us, hl with | [_, _], _ => rfl
  have bP := FP.binds (ps := ["stock", "corners", "legs"]) fun _ _ _ _ _ _ us hl => match us, hl with | [_, _, _], _ => rfl
  have bc := Fc.binds (ps := ["stock", "corners"]) fun _ _ _ _ _ _ us hl => match us, hl with | [_, _], _ => rfl
  have bg := Fg.binds (ps := ["stock", "legs"]) fun _ _ _ _ _ _ us hl => match us, hl with | [_, _], _ => rfl
  have bi := Fi.binds (ps := ["leg", "partners"]) fun _ _ _ _ _ _ us hl => match us, hl with | [_, _], _ => rfl
  have bS := FS.binds (ps := ["_law_cell"]) fun _ _ _ _ _ _ us hl => match us, hl with | [_], _ => rfl
  have bN := FN.binds (ps := ["_law_state_here", "_law_many"]) fun _ _ _ _ _ _ us hl => match us, hl with | [_, _], _ => rfl
  have bW := FW.binds (ps := ["_law_state_here", "_law_many"]) fun _ _ _ _ _ _ us hl => match us, hl with | [_, _], _ => rfl
  have bR := FR.binds (ps := ["_law_state_here", "_law_most"]) fun _ _ _ _ _ _ us hl => match us, hl with | [_, _], _ => rfl
  have bE := FE.binds (ps := ["stock", "corners", "legs"]) fun _ _ _ _ _ _ us hl => match us, hl with | [_, _, _], _ => rfl
  have bO := FO.binds (ps := ["many"]) fun _ _ _ _ _ _ us hl => match us, hl with | [_], _ => rfl
  have bY := FY.binds (ps := ["many", "others"]) fun _ _ _ _ _ _ us hl => match us, hl with | [_, _], _ => rfl
  have bA := FA.binds (ps := ["stock", "corners", "legs"]) fun _ _ _ _ _ _ us hl => match us, hl with | [_, _, _], _ => rfl
  have ba6 := Fa6.binds (ps := ["stock", "ends", "first", "other"]) fun _ _ _ _ _ _ us hl => match us, hl with | [_, _, _, _], _ => rfl
  have ba7 := Fa7.binds (ps := ["stock", "ends", "numbers"]) fun _ _ _ _ _ _ us hl => match us, hl with | [_, _, _], _ => rfl
  have ba8 := Fa8.binds (ps := ["stock", "corners", "legs"]) fun _ _ _ _ _ _ us hl => match us, hl with | [_, _, _], _ => rfl
  have bT := FT.binds (ps := ["_law_kinds", "_law_corners", "_law_legs"]) fun _ _ _ _ _ _ us hl => match us, hl with | [_, _, _], _ => rfl
  have bm := Fm.binds (ps := ["_law_sorts", "_law_some"]) fun _ _ _ _ _ _ us hl => match us, hl with | [_, _], _ => rfl
  have bD := FD.binds (ps := ["_law_state_here", "_law_sorts", "_law_kinds", "_law_most", "_law_far"]) fun _ _ _ _ _ _ us hl => match us, hl with | [_, _, _, _, _], _ => rfl
  have bq := Fq.binds (ps := ["_law_sorts", "_law_ends"]) fun _ _ _ _ _ _ us hl => match us, hl with | [_, _], _ => rfl
  have br := Fr.binds (ps := ["_law_stock", "_law_sorts", "_law_ends", "_law_corners", "_law_legs"]) fun _ _ _ _ _ _ us hl => match us, hl with | [_, _, _, _, _], _ => rfl
  refine ⟨PySem.W.fnOf "law" "law" (defArgs sLaw) (defBody sLaw) (defScope sLaw) .none kVL dcL pmL anL cdL ctL, fun s v => .of_eq rfl, fun base hb1 hb2 => ?_⟩
  have Gn : FnOk l.prog w K mg base CX0 1 fn _ ["thing"] spName := ok_name Fn M
  have Gp : FnOk l.prog w K mg base CX0 1 fp _ ["thing"] spPair := ok_pair Fp M
  have Gl : FnOk l.prog w K mg base CX0 1 fl _ ["thing", "fewest", "most"] spList := ok_list Fl M
  have Gu : FnOk l.prog w K mg base CX0 1 fu _ ["things"] (spUnlike K) := ok_unlike Fu M
  have Ge : FnOk l.prog w K mg base CX0 2 fe _ ["ends", "partners"] spEnds := ok_ends Fe M Gn kn bn (mo gn)
  have Gk : FnOk l.prog w K mg base CX0 3 fk _ ["row", "partners"] spKind := ok_kind Fk Gp kp bp (mo gp) Gn kn bn (mo gn) Ge ke be (mo ge)
  have GK : FnOk l.prog w K mg base CX0 4 fK _ ["kinds", "partners"] spKinds := ok_kinds FK M Gl kl bl (mo gl) Gk kk bk (mo gk) Gu ku bu (mo gu)
  have Gs : FnOk l.prog w K mg base CX0 2 fs _ ["sorts"] spSorts := ok_sorts Fs M Gl kl bl (mo gl) Gp kp bp (mo gp) Gn kn bn (mo gn)
  have GX : FnOk l.prog w K mg base CX0 1 fX _ ["self", "part"] (spExI CN "part") := ok_exinit rfl scNoSt rfl rfl (by decide) (by decide) FX T.ox T.noP
  have GI : FnOk l.prog w K mg base (L2.CX l.prog w) 5 fI _ ["self", "sorts", "kinds"] (spInit C CN) := ok_init FI M T Gs ks bs (mo gs) GK kK bK (mo gK) GX bX
  have GV : FnOk l.prog w K mg base CX0 1 fV _ ["self", "part"] (spExI CD "part") := ok_exinit rfl scNoDr rfl rfl (by decide) (by decide) FV N.ox N.noP
  have Gc : FnOk l.prog w K mg base CX0 2 fc _ ["stock", "corners"] (spCorners C) := ok_corners Fc M T ⟨_, mo c5⟩ Gl kl bl (mo gl) Gn kn bn (mo gn)
  have Gi : FnOk l.prog w K mg base CX0 2 fi _ ["leg", "partners"] spIsLeg := ok_isLeg Fi Gp kp bp (mo gp) Gn kn bn (mo gn)
  have Gg : FnOk l.prog w K mg base CX0 3 fg _ ["stock", "legs"] (spLegs C) := ok_legs Fg M T ⟨_, mo c6⟩ Gl kl bl (mo gl) Gi ki bi (mo gi) Gu ku bu (mo gu)
  have GP : FnOk l.prog w K mg base (L2.CX l.prog w) 4 fP _ ["stock", "corners", "legs"] (spPlaces C CD) := ok_places FP N Gc kc bc (mo gc) Gg kg bg (mo gg) GV bV
  have GS : FnOk l.prog w K mg base CX0 1 fS _ ["_law_cell"] spState := ok_state FS (mz z_abs)
  have GN : FnOk l.prog w K mg base CX0 1 fN _ ["_law_state_here", "_law_many"] spPick := ok_pick FN
  have GW : FnOk l.prog w K mg base CX0 2 fW _ ["_law_state_here", "_law_many"] spWords := ok_words FW GN kN bN (mo gN) (mz z_range)
  have GR : FnOk l.prog w K mg base CX0 3 fR _ ["_law_state_here", "_law_most"] spRows := ok_rows FR M GN kN bN (mo gN) GW kW bW (mo gW) (mz z_range)
  have GE : FnOk l.prog w K mg base CX0 1 fE _ ["stock", "corners", "legs"] (spAllEnds C) := ok_allEnds FE M T (mz z_enumerate)
  have GO : FnOk l.prog w K mg base CX0 1 fO _ ["many"] spAlone := ok_alone FO (mz z_range)
  have GY : FnOk l.prog w K mg base CX0 1 fY _ ["many", "others"] spAcross := ok_across FY (mo x0)
  have GA : FnOk l.prog w K mg base (L2.CX l.prog w) 5 fA _ ["stock", "corners", "legs"] (spCount C CD) := ok_count FA M T GP kP bP (mo gP) GE kE bE (mo gE) GO kO bO (mo gO) GY kY bY (mo gY)
  have Ga6 : FnOk l.prog w K mg base CX0 1 fa6 _ ["stock", "ends", "first", "other"] (spPartB C) := ok_partB Fa6 T
  have Ga7 : FnOk l.prog w K mg base CX0 7 fa7 _ ["stock", "ends", "numbers"] (spPairedP C 5) := ok_pairedP Fa7 Ga6 ka6 ba6 (mo ga6) ka7 ba7 (mo ga7) 5
  have Ga8 : FnOk l.prog w K mg base (L2.CX l.prog w) 8 fa8 _ ["stock", "corners", "legs"] (spPairings C) := ok_pairings Fa8 M GP kP bP (mo gP) GE kE bE (mo gE) Ga7 ka7 ba7 (mo ga7) (mz z_range) (mo c7)
  have GT : FnOk l.prog w K mg base CX0 1 fT _ ["_law_kinds", "_law_corners", "_law_legs"] spThere := ok_there FT M (mz z_enumerate)
  have Gm : FnOk l.prog w K mg base CX0 1 fm _ ["_law_sorts", "_law_some"] spWanted := ok_wanted Fm (mz z_max)
  have GD : FnOk l.prog w K mg base CX0 3 fD _ ["_law_state_here", "_law_sorts", "_law_kinds", "_law_most", "_law_far"] spGrounds := ok_grounds FD M GN kN bN (mo gN) GW kW bW (mo gW) GT kT bT (mo gT) Gm km bm (mo gm) (mz z_range) (mz z_zip)
  have Gq : FnOk l.prog w K mg base CX0 1 fq _ ["_law_sorts", "_law_ends"] spAllPairings := ok_allPairings Fq M (mz z_range)
  have Gr : FnOk l.prog w K mg base CX0 9 fr _ ["_law_stock", "_law_sorts", "_law_ends", "_law_corners", "_law_legs"] (spRight22 C) := ok_right22 Fr M Gq kq bq (mo gq) Ga8 ka8 ba8 (mo ga8) GA kA bA (mo gA) (mz z_range)
  exact ok_law (CN := CD) FL M T mk GI bI GS kS bS (mo gS) GN kN bN (mo gN) GR kR bR (mo gR) GD kD bD (mo gD) GT kT bT (mo gT) Gr kr br (mo gr)
end Toy
set_option Elab.async false
set_option linter.all false
set_option maxRecDepth 100000
open PySem PySem.W PyProof.Rows
set_option maxHeartbeats 0 in
theorem PySem.Challenge.cw_endsum_k22_pairings_told_holds : PySem.Challenge.rw_endsum_k22_pairings_told.Holds := by
  w_on; o_law; k_head; (case hw => w_witness2)
  k_fill
  refine L2.walk_of (l := PySem.Challenge.rw_endsum_k22_pairings_told) (n := 63) (k := 10) (x := "_law_script") (CX := fun _ => L2.CX0) (sp := fun w => Toy.spLaw _) rfl (by decide) rfl ⟨rfl, by decide, by decide⟩ (fun w h Y => PySem.W.kIn_of Y) ?F (fun _ _ a ns hl _ hS => ⟨a, ns, rfl, hS, hl, fun _ => rfl⟩) (fun _ _ _ _ _ h => h)
  case F =>
    intro w mg fa h KX G hmg
    refine' Toy.all_mk KX G hmg ?q_aC ?q_aCN ?q_aCD ?q_c0 ?q_c1 ?q_c2 ?q_c3 ?q_c4 ?q_c5 ?q_c6 ?q_c7 ?q_x0 ?q_xl1 ?q_rb1 ?q_xl2 ?q_rb2 ?q_gn ?q_gp ?q_gl ?q_gu ?q_ge ?q_gk ?q_gK ?q_gs ?q_gP ?q_gc ?q_gg ?q_gi ?q_gS ?q_gN ?q_gW ?q_gR ?q_gE ?q_gO ?q_gY ?q_gA ?q_ga6 ?q_ga7 ?q_ga8 ?q_gT ?q_gm ?q_gD ?q_gq ?q_gr ?q_gL ?q_iI ?q_iX ?q_iV ?q_ln ?q_cn_ ?q_kn ?q_lp ?q_cp_ ?q_kp ?q_ll ?q_cl_ ?q_kl ?q_lu ?q_cu_ ?q_ku ?q_le ?q_ce_ ?q_ke ?q_lk ?q_ck_ ?q_kk ?q_lK ?q_cK_ ?q_kK ?q_ls ?q_cs_ ?q_ks ?q_lI ?q_cI_ ?q_kI ?q_lX ?q_cX_ ?q_kX ?q_lV ?q_cV_ ?q_kV ?q_lP ?q_cP_ ?q_kP ?q_lc ?q_cc_ ?q_kc ?q_lg ?q_cg_ ?q_kg ?q_li ?q_ci_ ?q_ki ?q_lS ?q_cS_ ?q_kS ?q_lN ?q_cN_ ?q_kN ?q_lW ?q_cW_ ?q_kW ?q_lR ?q_cR_ ?q_kR ?q_lE ?q_cE_ ?q_kE ?q_lO ?q_cO_ ?q_kO ?q_lY ?q_cY_ ?q_kY ?q_lA ?q_cA_ ?q_kA ?q_la6 ?q_ca6_ ?q_ka6 ?q_la7 ?q_ca7_ ?q_ka7 ?q_la8 ?q_ca8_ ?q_ka8 ?q_lT ?q_cT_ ?q_kT ?q_lm ?q_cm_ ?q_km ?q_lD ?q_cD_ ?q_kD ?q_lq ?q_cq_ ?q_kq ?q_lr ?q_cr_ ?q_kr ?q_lL ?q_cL_ ?q_kL ?q_tb1 ?q_tb2 ?q_tb3 ?q_z_abs ?q_z_len ?q_z_range ?q_z_isinstance ?q_z_str ?q_z_tuple ?q_z_list ?q_z_all ?q_z_set ?q_z_dict ?q_z_sorted ?q_z_enumerate ?q_z_max ?q_z_zip
    (case q_aC => k_is)
    (case q_aCN => k_is)
    (case q_aCD => k_is)
    (case q_c0 => k_is)
    (case q_c1 => k_is)
    (case q_c2 => k_is)
    (case q_c3 => k_is)
    (case q_c4 => k_is)
    (case q_c5 => k_is)
    (case q_c6 => k_is)
    (case q_c7 => k_is)
    (case q_x0 => k_is)
    (case q_xl1 => k_is)
    (case q_rb1 => rfl)
    (case q_xl2 => k_is)
    (case q_rb2 => rfl)
    (case q_gn => k_is)
    (case q_gp => k_is)
    (case q_gl => k_is)
    (case q_gu => k_is)
    (case q_ge => k_is)
    (case q_gk => k_is)
    (case q_gK => k_is)
    (case q_gs => k_is)
    (case q_gP => k_is)
    (case q_gc => k_is)
    (case q_gg => k_is)
    (case q_gi => k_is)
    (case q_gS => k_is)
    (case q_gN => k_is)
    (case q_gW => k_is)
    (case q_gR => k_is)
    (case q_gE => k_is)
    (case q_gO => k_is)
    (case q_gY => k_is)
    (case q_gA => k_is)
    (case q_ga6 => k_is)
    (case q_ga7 => k_is)
    (case q_ga8 => k_is)
    (case q_gT => k_is)
    (case q_gm => k_is)
    (case q_gD => k_is)
    (case q_gq => k_is)
    (case q_gr => k_is)
    (case q_gL => k_is)
    (case q_iI => k_is)
    (case q_iX => k_is)
    (case q_iV => k_is)
    (case q_ln => k_is)
    (case q_cn_ => k_is)
    (case q_kn => k_is)
    (case q_lp => k_is)
    (case q_cp_ => k_is)
    (case q_kp => k_is)
    (case q_ll => k_is)
    (case q_cl_ => k_is)
    (case q_kl => k_is)
    (case q_lu => k_is)
    (case q_cu_ => k_is)
    (case q_ku => k_is)
    (case q_le => k_is)
    (case q_ce_ => k_is)
    (case q_ke => k_is)
    (case q_lk => k_is)
    (case q_ck_ => k_is)
    (case q_kk => k_is)
    (case q_lK => k_is)
    (case q_cK_ => k_is)
    (case q_kK => k_is)
    (case q_ls => k_is)
    (case q_cs_ => k_is)
    (case q_ks => k_is)
    (case q_lI => k_is)
    (case q_cI_ => k_is)
    (case q_kI => k_is)
    (case q_lX => k_is)
    (case q_cX_ => k_is)
    (case q_kX => k_is)
    (case q_lV => k_is)
    (case q_cV_ => k_is)
    (case q_kV => k_is)
    (case q_lP => k_is)
    (case q_cP_ => k_is)
    (case q_kP => k_is)
    (case q_lc => k_is)
    (case q_cc_ => k_is)
    (case q_kc => k_is)
    (case q_lg => k_is)
    (case q_cg_ => k_is)
    (case q_kg => k_is)
    (case q_li => k_is)
    (case q_ci_ => k_is)
    (case q_ki => k_is)
    (case q_lS => k_is)
    (case q_cS_ => k_is)
    (case q_kS => k_is)
    (case q_lN => k_is)
    (case q_cN_ => k_is)
    (case q_kN => k_is)
    (case q_lW => k_is)
    (case q_cW_ => k_is)
    (case q_kW => k_is)
    (case q_lR => k_is)
    (case q_cR_ => k_is)
    (case q_kR => k_is)
    (case q_lE => k_is)
    (case q_cE_ => k_is)
    (case q_kE => k_is)
    (case q_lO => k_is)
    (case q_cO_ => k_is)
    (case q_kO => k_is)
    (case q_lY => k_is)
    (case q_cY_ => k_is)
    (case q_kY => k_is)
    (case q_lA => k_is)
    (case q_cA_ => k_is)
    (case q_kA => k_is)
    (case q_la6 => k_is)
    (case q_ca6_ => k_is)
    (case q_ka6 => k_is)
    (case q_la7 => k_is)
    (case q_ca7_ => k_is)
    (case q_ka7 => k_is)
    (case q_la8 => k_is)
    (case q_ca8_ => k_is)
    (case q_ka8 => k_is)
    (case q_lT => k_is)
    (case q_cT_ => k_is)
    (case q_kT => k_is)
    (case q_lm => k_is)
    (case q_cm_ => k_is)
    (case q_km => k_is)
    (case q_lD => k_is)
    (case q_cD_ => k_is)
    (case q_kD => k_is)
    (case q_lq => k_is)
    (case q_cq_ => k_is)
    (case q_kq => k_is)
    (case q_lr => k_is)
    (case q_cr_ => k_is)
    (case q_kr => k_is)
    (case q_lL => k_is)
    (case q_cL_ => k_is)
    (case q_kL => k_is)
    (case q_tb1 => kernel_rfl)
    (case q_tb2 => kernel_rfl)
    (case q_tb3 => kernel_rfl)
    (case q_z_abs => k_is)
    (case q_z_len => k_is)
    (case q_z_range => k_is)
    (case q_z_isinstance => k_is)
    (case q_z_str => k_is)
    (case q_z_tuple => k_is)
    (case q_z_list => k_is)
    (case q_z_all => k_is)
    (case q_z_set => k_is)
    (case q_z_dict => k_is)
    (case q_z_sorted => k_is)
    (case q_z_enumerate => k_is)
    (case q_z_max => k_is)
    (case q_z_zip => k_is)
