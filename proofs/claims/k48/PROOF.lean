import PyProof.Rows.All
import Wide.All
import OpenK.AllK
import Wide.FinOn
import KE.KExcIs
import KE.KMathG
import KE.KMathGC
import KE.GoesMore
import KE.SortData
import KE.DataCmp
import KE.DataMinMax
import KE.KDictZip
import KE.KTurns
import KE.KIndexOf
import KE.KDictList
import KE.DataFind
import HandS.ForMost
import HandS.ForExc
import HandS.ExcIs
import HandS.ExcInit
import HandS.ExcValue
import HandS.ExcField
import HandS.IsInst
import HandS.OwnEq
import HandS.Style
import HandS.TupMul
import HandS.TupAny
import HandS.Walk
import HandS.Strs
import HandS.SetKeys
import HandS.Gcd
import HandS.SetFor
import HandS.Deep
import HandS.Conv
import HandS.DictComp
import HandS.ExcOwn
import HandS.Star
import HandS.More
import HandS.Sort
import PySem.Challenge.RW_endsum_k48_whole_cut_and_sewn
set_option Elab.async false
set_option linter.all false
set_option maxRecDepth 100000
set_option maxHeartbeats 2000000
namespace Toy
open PySem PySem.Spec PyProof.Rows L2
/-! ### plain data in the heap -/
/-- a text of moderate length -/
def okS (x : Str) : Prop := x.length ≤ 1000 ∧ PyData.strOk x = true
/-- a tuple of these is read at a -/
structure TupAt (H : Hp) (a : Addr) (xs : List V) : Prop where
  rd : Rd H a (.tup xs)
theorem TupAt.same {H H' : Hp} (s : Same H H') {a : Addr} {xs : List V} (h : TupAt H a xs) : TupAt H' a xs := ⟨h.rd.elim (fun e => .inl (s _ _ e)) fun ⟨o, e⟩ => .inr ⟨o, s _ _ e⟩⟩
theorem TupAt.of {H : Hp} {a : Addr} {xs : List V} (e : H a = some (.tup xs)) : TupAt H a xs := ⟨.inl e⟩
theorem TupAt.sq {K : PySem.W.Frag} {H : Hp} {a : Addr} {xs : List V} (h : TupAt H a xs) : SqT K H a xs := .inl h.rd
mutual
inductive Dt (H : Hp) : V → PyData → Prop
  | non : Dt H .non .none
  | bl (b : Bool) : Dt H (.bl b) (.bool b)
  | int (i : Int) : Dt H (.int i) (.int i)
  | str (x : Str) : okS x → Dt H (.str x) (.str x)
  | lst {a : Addr} {xs : List V} {ds : List PyData} : H a = some (.lst xs) → xs.length ≤ 1000 → DtAll H xs ds → Dt H (.ref a) (.list ds)
  | tup {a : Addr} {xs : List V} {ds : List PyData} : TupAt H a xs → xs.length ≤ 1000 → DtAll H xs ds → Dt H (.ref a) (.tuple ds)
  | dct {a : Addr} : H a = some (.dK []) → Dt H (.ref a) (.dict [])
inductive DtAll (H : Hp) : List V → List PyData → Prop
  | nil : DtAll H [] []
  | cons {v : V} {vs : List V} {d : PyData} {ds : List PyData} : Dt H v d → DtAll H vs ds → DtAll H (v :: vs) (d :: ds)
end
mutual
theorem Dt.same {H H' : Hp} (s : Same H H') : ∀ {v : V} {d : PyData}, Dt H v d → Dt H' v d
  | _, _, .non => .non
  | _, _, .bl b => .bl b
  | _, _, .int i => .int i
  | _, _, .str x h => .str x h
  | _, _, .lst e l r => .lst (s _ _ e) l (DtAll.same s r)
  | _, _, .tup e l r => .tup (TupAt.same s e) l (DtAll.same s r)
  | _, _, .dct e => .dct (s _ _ e)
theorem DtAll.same {H H' : Hp} (s : Same H H') : ∀ {vs : List V} {ds : List PyData}, DtAll H vs ds → DtAll H' vs ds
  | _, _, .nil => .nil
  | _, _, .cons h t => .cons (Dt.same s h) (DtAll.same s t)
end
theorem DtAll.len {H : Hp} : ∀ {vs : List V} {ds : List PyData}, DtAll H vs ds → vs.length = ds.length
  | _, _, .nil => rfl
  | _, _, .cons _ t => by
    rw [List.length_cons, List.length_cons, DtAll.len t]
theorem DtAll.two {H : Hp} {xs : List V} {ds : List PyData} (r : DtAll H xs ds) (h : ds.length = 2) : ∃ v0 v1 d0 d1, xs = [v0, v1] ∧ ds = [d0, d1] ∧ Dt H v0 d0 ∧ Dt H v1 d1 := by
  cases r with
  | nil => cases h
  | cons h0 r =>
    cases r with
    | nil => cases h
    | cons h1 r =>
      cases r with
      | nil => exact ⟨_, _, _, _, rfl, rfl, h0, h1⟩
      | cons h2 r =>
        rw [List.length_cons, List.length_cons, List.length_cons] at h
        omega
theorem DtAll.at_ {H : Hp} : ∀ {vs : List V} {ds : List PyData} {i : Nat} {v : V}, DtAll H vs ds → vs[i]? = some v → ∃ d, ds[i]? = some d ∧ Dt H v d
  | _, _, i, _, .nil, e => by simp at e
  | _, _, 0, _, .cons h _, e => by
    cases e
    exact ⟨_, rfl, h⟩
  | _, _, i + 1, _, .cons _ t, e => DtAll.at_ (i := i) t e
theorem DtAll.at' {H : Hp} : ∀ {vs : List V} {ds : List PyData} {i : Nat} {d : PyData}, DtAll H vs ds → ds[i]? = some d → ∃ v, vs[i]? = some v ∧ Dt H v d
  | _, _, i, _, .nil, e => by simp at e
  | _, _, 0, _, .cons h _, e => by
    cases e
    exact ⟨_, rfl, h⟩
  | _, _, i + 1, _, .cons _ t, e => DtAll.at' (i := i) t e
theorem DtAll.app {H : Hp} : ∀ {vs ws : List V} {ds es : List PyData}, DtAll H vs ds → DtAll H ws es → DtAll H (vs ++ ws) (ds ++ es)
  | _, _, _, _, .nil, s => s
  | _, _, _, _, .cons h t, s => .cons h (DtAll.app t s)
theorem DtAll.take {H : Hp} : ∀ {vs : List V} {ds : List PyData} (n : Nat), DtAll H vs ds → DtAll H (vs.take n) (ds.take n)
  | _, _, 0, _ => .nil
  | _, _, _ + 1, .nil => .nil
  | _, _, n + 1, .cons h t => .cons h (DtAll.take n t)
theorem DtAll.drop {H : Hp} : ∀ {vs : List V} {ds : List PyData} (n : Nat), DtAll H vs ds → DtAll H (vs.drop n) (ds.drop n)
  | _, _, 0, h => h
  | _, _, _ + 1, .nil => .nil
  | _, _, n + 1, .cons _ t => DtAll.drop n t
theorem DtAll.rev {H : Hp} : ∀ {vs : List V} {ds : List PyData}, DtAll H vs ds → DtAll H vs.reverse ds.reverse
  | _, _, .nil => .nil
  | _, _, .cons h t => by
    rw [List.reverse_cons, List.reverse_cons]
    exact DtAll.app (DtAll.rev t) (.cons h .nil)
theorem DtAll.strs {H : Hp} : ∀ xs : List Str, (∀ x ∈ xs, okS x) → DtAll H (xs.map V.str) (xs.map PyData.str)
  | [], _ => .nil
  | x :: xs, h => .cons (.str x (h x List.mem_cons_self)) (DtAll.strs xs fun y hy => h y (List.mem_cons_of_mem _ hy))
mutual
def noDict : PyData → Bool
  | .dict _ => false
  | .list ds => noDicts ds
  | .tuple ds => noDicts ds
  | _ => true
def noDicts : List PyData → Bool
  | [] => true
  | d :: ds => noDict d && noDicts ds
end
mutual
theorem Dt.dp {K : PySem.W.Frag} {H : Hp} : ∀ {v : V} {d : PyData}, Dt H v d → noDict d = true → Dp K H v d
  | _, _, .non, _ => .non
  | _, _, .bl b, _ => .bl b
  | _, _, .int i, _ => .int i
  | _, _, .str x _, _ => .str x
  | _, _, .lst e _ r, n => .lst (SqL.of e) (DtAll.dp r n)
  | _, _, .tup e _ r, n => .tup e.sq (DtAll.dp r n)
  | _, _, .dct e, n => nomatch n
theorem DtAll.dp {K : PySem.W.Frag} {H : Hp} : ∀ {vs : List V} {ds : List PyData}, DtAll H vs ds → noDicts ds = true → DpAll K H vs ds
  | _, _, .nil, _ => .nil
  | _, _, .cons h t, n => by
    have n2 : (noDict _ && noDicts _) = true := n
    rw [Bool.and_eq_true] at n2
    exact .cons (Dt.dp h n2.1) (DtAll.dp t n2.2)
end
mutual
theorem Dt.can {H : Hp} : ∀ {v : V} {d : PyData}, Dt H v d → noDict d = true → d.canLay0 = true
  | _, _, .non, _ => rfl
  | _, _, .bl b, _ => rfl
  | _, _, .int i, _ => rfl
  | _, _, .str x h, _ => h.2
  | _, _, .lst e _ r, n => DtAll.can r n
  | _, _, .tup e _ r, n => DtAll.can r n
  | _, _, .dct e, n => nomatch n
theorem DtAll.can {H : Hp} : ∀ {vs : List V} {ds : List PyData}, DtAll H vs ds → noDicts ds = true → PyData.canLayAll0 ds = true
  | _, _, .nil, _ => rfl
  | _, _, .cons h t, n => by
    have n2 : (noDict _ && noDicts _) = true := n
    rw [Bool.and_eq_true] at n2
    show (PyData.canLay0 _ && PyData.canLayAll0 _) = true
    rw [Dt.can h n2.1, DtAll.can t n2.2]
    rfl
end
/-- its type -/
def tyN : PyData → String
  | .none => "NoneType"
  | .bool _ => "bool"
  | .int _ => "int"
  | .str _ => "str"
  | .list _ => "list"
  | .tuple _ => "tuple"
  | .dict _ => "dict"
theorem Dt.ty {K : PySem.W.Frag} {H : Hp} {v : V} {d : PyData} (h : Dt H v d) : TyX K H v (.type (tyN d)) := by
  cases h with
  | non => exact .base .non
  | bl b => exact .base (.bl b)
  | int i => exact .base (.int i)
  | str x _ => exact .base (.str x)
  | lst e _ _ => exact .base (.lst e)
  | tup e _ _ => exact e.rd.elim (fun e => .base (.tup e)) fun ⟨o, e⟩ => .fTuple e
  | dct e => exact .base (.dK e)
/-- isinstance(v, T) of plain data -/
def rIsd (T : String) : List V → Hp → VK → Prop := fun xs H Q => ∃ (v : V) (d : PyData) (b : Bool), xs = [v, .ty T] ∧ Dt H v d ∧ kitB (tyN d) T = some b ∧ Q (.bl b) H
theorem call_isd {X : Cx} {T : String} : CallR X (.builtin "isinstance") (rIsd T) := by
  intro pins s σ H xs us Q I r h
  obtain ⟨v, d, b, rfl, hd, hb, q⟩ := h
  exact call_isi pins s σ H _ us Q I r ⟨v, .ty T, _, _, b, rfl, .ty T, hd.ty, kit_ty hb, q⟩
theorem kit_str (d : PyData) : kitB (tyN d) "str" = some (match d with | .str _ => true | _ => false) := by
  cases d <;> (dsimp only [tyN]; decide +kernel)
theorem kit_tuple (d : PyData) : kitB (tyN d) "tuple" = some (match d with | .tuple _ => true | _ => false) := by
  cases d <;> (dsimp only [tyN]; decide +kernel)
theorem kit_list (d : PyData) : kitB (tyN d) "list" = some (match d with | .list _ => true | _ => false) := by
  cases d <;> (dsimp only [tyN]; decide +kernel)
theorem kit_int (d : PyData) : kitB (tyN d) "int" = some (match d with | .int _ => true | .bool _ => true | _ => false) := by
  cases d <;> (dsimp only [tyN]; decide +kernel)
theorem kit_bool (d : PyData) : kitB (tyN d) "bool" = some (match d with | .bool _ => true | _ => false) := by
  cases d <;> (dsimp only [tyN]; decide +kernel)
end Toy
set_option Elab.async false
set_option linter.all false
set_option maxRecDepth 100000
set_option maxHeartbeats 3200000
/-! ### the keys met, each once, in the order of their first place -/
namespace Toy
section
variable {κ : Type} [DecidableEq κ]
def addMet (σ : List κ) (k : κ) : List κ := if k ∈ σ then σ else σ ++ [k]
def met (ks : List κ) : List κ := ks.foldl addMet []
theorem met_snoc (ks : List κ) (k : κ) : met (ks ++ [k]) = addMet (met ks) k := by
  unfold met
  rw [List.foldl_append]
  rfl
theorem mem_add (σ : List κ) (k j : κ) : j ∈ addMet σ k ↔ j ∈ σ ∨ j = k := by
  unfold addMet
  by_cases h : k ∈ σ
  · rw [if_pos h]
    constructor
    · exact fun q => Or.inl q
    · rintro (q | rfl)
      · exact q
      · exact h
  · rw [if_neg h, List.mem_append, List.mem_singleton]
theorem rev_ind {P : List κ → Prop} (h0 : P []) (h1 : ∀ l x, P l → P (l ++ [x])) (l : List κ) : P l := by
  have key : ∀ n (l : List κ), l.length = n → P l := by
    intro n
    induction n with
    | zero =>
      intro l hl
      rw [List.length_eq_zero_iff.mp hl]
      exact h0
    | succ n ih =>
      intro l hl
      have hne : l ≠ [] := fun e => by
        rw [e] at hl
        cases hl
      have e := List.dropLast_concat_getLast hne
      rw [← e]
      exact h1 _ _ (ih _ (by rw [List.length_dropLast, hl]; rfl))
  exact key _ l rfl
theorem mem_met (ks : List κ) (j : κ) : j ∈ met ks ↔ j ∈ ks := by
  induction ks using rev_ind with
  | h0 => exact Iff.rfl
  | h1 l x ih => rw [met_snoc, mem_add, ih, List.mem_append, List.mem_singleton]
theorem met_le (ks : List κ) : (met ks).length ≤ ks.length := by
  induction ks using rev_ind with
  | h0 => exact Nat.le_refl _
  | h1 l x ih =>
    rw [met_snoc, List.length_append, List.length_singleton]
    unfold addMet
    split
    · omega
    · rw [List.length_append, List.length_singleton]
      omega
theorem met_full (ks : List κ) : (met ks).length = ks.length ↔ ks.Nodup := by
  induction ks using rev_ind with
  | h0 => exact ⟨fun _ => List.nodup_nil, fun _ => rfl⟩
  | h1 l x ih =>
    have le := met_le l
    rw [met_snoc, List.length_append, List.length_singleton, List.nodup_append]
    unfold addMet
    by_cases h : x ∈ met l
    · rw [if_pos h]
      have hm := (mem_met l x).mp h
      constructor
      · intro e
        omega
      · rintro ⟨_, _, q⟩
        exact absurd rfl (q x hm x (List.mem_singleton.mpr rfl))
    · rw [if_neg h, List.length_append, List.length_singleton]
      have hm : x ∉ l := fun q => h ((mem_met l x).mpr q)
      constructor
      · intro e
        refine ⟨ih.mp (by omega), (by simp), fun a ha b hb => ?_⟩
        rw [List.mem_singleton.mp hb]
        intro e2
        exact hm (e2 ▸ ha)
      · rintro ⟨q, _, _⟩
        rw [ih.mpr q]
end
end Toy
namespace PySem
open PyProof.Rows Toy
section
variable {κ : Type} [DecidableEq κ] [BEq κ] [LawfulBEq κ] {prog : Program} {w : World} {A : Around} {R : Result → Shared → Prop} {I : Addr} {fp wr : List Addr} {G : Array GenState → Array GenState → Prop} {n : Nat} {P : Nat → Value → Prop} {St : Nat → Shared → Prop}
theorem toy_loop (knd : KeyKind prog w κ) (W : WalksS prog w A.in1 I fp wr G n P St) (S : Addr) (out : S ∉ fp) (ks : List κ) (hlen : ks.length = n) (room : n + 1 < scanBound)
    (hv : ∀ i v, P i v → ∃ k, ks[i]? = some k ∧ knd.is k v = true ∧ v.scannable = true) :
    ∀ (left i : Nat) (s : Shared), n - i = left → i ≤ n → St i s → s.heap.SetOf knd S (fun j => decide (j ∈ met (ks.take i))) (met (ks.take i)).length →
      (∀ s', Moved (S :: wr) G s s' → s'.heap.SetOf knd S (fun j => decide (j ∈ met ks)) (met ks).length → R (.ok (.ret .none)) s') →
      codeAny (model prog w) A (.builtin "set.update.loop" ⟨[.ref S, .ref I], []⟩) R s := by
  have outW : S ∉ wr := fun z => out (W.sub _ z)
  have more : ∀ b ∈ wr, b ∈ S :: wr := fun b z => List.mem_cons_of_mem _ z
  intro left
  induction left with
  | zero =>
    intro i s hk hi hst hS fin
    have hin : i = n := by omega
    subst hin
    refine codeAny_builtin PyProof.Rows.F.entry_set_update_loop ?_
    rw [Around.under_plainId PyProof.Rows.F.plain_set_update_loop _]
    show wpAny _ A.in1 (pyNext (.ref I) >>= _) _ _ s
    refine wpAny_bind (W.done s _ _ hst fun s' mv => ?_)
    show wpAny _ A.in1 (ret Value.none) _ _ s'
    rw [← hlen, List.take_length] at hS
    obtain ⟨o, es, ep, t, ho, others⟩ := hS
    exact wpAny_pure (fin s' (mv.mono more) ⟨o, es, ep, t, mv.heap S _ outW ho, others⟩)
  | succ left ih =>
    intro i s hk hi hst hS fin
    have lt : i < n := by omega
    refine codeAny_builtin PyProof.Rows.F.entry_set_update_loop ?_
    rw [Around.under_plainId PyProof.Rows.F.plain_set_update_loop _]
    show wpAny _ A.in1 (pyNext (.ref I) >>= _) _ _ s
    refine wpAny_bind (W.item i s _ _ lt hst fun v s' hP hst' mv => ?_)
    obtain ⟨k, hk1, hk2, hk3⟩ := hv i v hP
    have nextK : ks.take (i + 1) = ks.take i ++ [k] := by
      rw [List.take_add_one, hk1]
      rfl
    have hS' : s'.heap.SetOf knd S (fun j => decide (j ∈ met (ks.take i))) (met (ks.take i)).length := by
      obtain ⟨o, es, ep, tb, ho, others⟩ := hS
      exact ⟨o, es, ep, tb, mv.heap S _ outW ho, others⟩
    have small : (met (ks.take i)).length + 1 < scanBound := by
      have q1 := met_le (ks.take i)
      rw [List.length_take] at q1
      omega
    show wpAny _ A.in1 (holding [v] (setAdd S v) >>= _) _ _ s'
    refine wpAny_bind (wpAny_holding ?_)
    unfold setAdd
    refine wpAny_holding (wpAny_bind (knd.pyHash (k := k) hk2 ?_))
    refine wpAny_setAddHashed_of (knd := knd) (s := { s' with toks := s'.toks + 1 }) hk2 hk3 hS' small fun h' hsb hS2 => ?_
    have hSi : h'.SetOf knd S (fun j => decide (j ∈ met (ks.take (i + 1)))) (met (ks.take (i + 1))).length := by
      refine SetOf_congr hS2 (fun j => ?_) ?_
      · rw [nextK, met_snoc]
        by_cases e1 : j ∈ met (ks.take i)
        · rw [decide_eq_true e1, decide_eq_true ((mem_add _ _ _).mpr (Or.inl e1))]
          rfl
        · by_cases e2 : j = k
          · rw [decide_eq_true e2, decide_eq_true ((mem_add _ _ _).mpr (Or.inr e2)), Bool.or_true]
          · rw [decide_eq_false e1, decide_eq_false e2, decide_eq_false (fun z => ((mem_add _ _ _).mp z).elim e1 e2)]
            rfl
      · rw [nextK, met_snoc]
        unfold addMet
        by_cases e1 : k ∈ met (ks.take i)
        · rw [if_pos e1, if_pos (decide_eq_true e1)]
        · rw [if_neg e1, if_neg (by rw [decide_eq_false e1]; exact Bool.false_ne_true), List.length_append, List.length_singleton]
    refine wpAny_pure ⟨plainId_quiet PyProof.Rows.F.plain_set_update_loop _, ih (i + 1) _ (by omega) lt (W.frame _ s' _ _ hst' (Nat.le_succ _) fun b hb o e => ?_) hSi fun s2 mv2 hS3 => ?_⟩
    · rw [hsb.2 b (fun z : b = S => out (by rw [← z]; exact hb))]
      exact e
    · refine fin s2 (Moved.trans W.gtrans ((mv.mono more).then_heap (Nat.le_succ _) fun b o hb e => ?_) mv2) hS3
      rw [hsb.2 b (fun z : b = S => hb (by rw [z]; exact List.mem_cons_self))]
      exact e
end
section
variable {κ : Type} [DecidableEq κ] [BEq κ] [LawfulBEq κ] {prog : Program} {w : World} {A : Around} {E : Value → Shared → Prop} {s : Shared}
abbrev set0 (led : Bool) : Obj := { cls := .type "set", dict := none, data := .set #[] 0 (.fresh 0 0 led) }
theorem toy_set (knd : KeyKind prog w κ) {l : Addr} {items : Array Value} {ks : List κ} {Q : Value → Shared → Prop} (hh : A.handled = none) (hl : s.heap.IsList l items) (hlen : ks.length = items.size) (room : items.size + 1 < scanBound)
    (hv : ∀ (i : Nat) v, items[i]? = some v → ∃ k, ks[i]? = some k ∧ knd.is k v = true ∧ v.scannable = true)
    (h : ∀ (h' : Heap) (tk : Nat), h'.SetOf knd s.heap.objs.size (fun j => decide (j ∈ met ks)) (met ks).length →
      (∀ b o, b < s.heap.objs.size → s.heap.get? b = some o → h'.get? b = some o) → Q (.ref s.heap.objs.size) { s with heap := h', toks := tk }) :
    wpAny (model prog w) A (call (.type "set") [.ref l]) Q E s := by
  obtain ⟨c, tl, hmro⟩ := PySem.F.called_set.mro
  have hmade := PySem.F.called_set.made
  have hsub := PySem.F.called_set.sub
  refine wpAny_call (codeAny_of_tree ?_)
  show wpAny _ _ (callAny (.type "set") _) _ _ _
  refine wpAny_pure ⟨Code.quiet_builtin _ (by decide +kernel), codeAny_builtin PySem.F.entry_type_call ?_⟩
  rw [Around.under_plain (weight_type_call_type "set" [.ref l] []) rfl]
  have g1 := PySem.F.called_set.notType
  have g2 := PySem.F.called_set.canCreate
  have g3 := PySem.F.typeCall_set_1 (.ref l)
  repeat (any_goals (first | assumption | wp_step))
  refine codeAny_mono (code_set_new_1 (.ref l) (E := E) (Q₁ := fun ob sA => ∃ led : Bool, ob = .ref s.heap.objs.size ∧ sA = { s with heap := s.heap.push { cls := .type "set", dict := none, data := .set #[] 0 (.fresh 0 0 led) } }) fun led => ⟨led, rfl, rfl⟩) fun r sA hr => ?_
  match r, hr with
  | .error e, hr => exact hr
  | .ok .next, hr => exact hr.elim
  | .ok .brk, hr => exact hr.elim
  | .ok .cont, hr => exact hr.elim
  | .ok (.ret ob), hr =>
    obtain ⟨led, rfl, rfl⟩ := hr
    have hS : (s.heap.push (set0 led)).get? s.heap.objs.size = some (set0 led) := Heap.get?_push_size _ rfl
    have hT : Shared.TypeIs { s with heap := s.heap.push (set0 led) } (.ref s.heap.objs.size) "set" := ⟨_, hS, rfl⟩
    have g4 := PySem.F.called_set.init.lookup
    have g5 := PySem.F.called_set.init.bind (.ref s.heap.objs.size)
    repeat (any_goals (first | assumption | wp_step))
    refine codeAny_mono (codeAny_call_builtin (R := wants (fun r s₂ => r = .none ∧ ∃ h' tk, s₂ = { s with heap := h', toks := tk } ∧ h'.SetOf knd s.heap.objs.size (fun j => decide (j ∈ met ks)) (met ks).length ∧
        (∀ b o, b < s.heap.objs.size → s.heap.get? b = some o → h'.get? b = some o)) E) PySem.F.called_set.init.plain PySem.F.entry_set_init (check_set_init_1 hT ?_)) fun r₂ s₂ hr₂ => ?_
    · obtain ⟨ol, hol, hcl, nl, hdl⟩ := hl
      obtain ⟨oc, odi, oda, osl⟩ := ol
      simp only at hcl hdl
      subst hcl hdl
      have hol' : (s.heap.push (set0 led)).get? l = some { cls := .type "list", dict := odi, data := .seq items nl, slots := osl } := Heap.get?_push_of_some _ hol
      have g6 := PySem.F.sub_list_set
      have g7 := PySem.F.sub_list_frozenset
      have g8 : (Value.type "list" == Value.type "dict") = false := by decide
      have hl1 : (s.heap.push (set0 led)).IsList l items := ⟨_, hol', rfl, nl, rfl⟩
      unfold Builtin.«set.__init__» noKeywords Builtin.Frozenset.updateFrom
      generalize hPI : pyIter = PI
      wp_walk
      subst hPI
      refine wpAny_pyIter_list hl1 ?_
      refine wpAny_bind (wpAny_runValue ?_)
      have lS : l < s.heap.objs.size := Heap.lt_size hol
      have hh3 : A.in1.in1.in1.handled = none := by simp [hh]
      have nI : l ≠ (s.heap.push (set0 led)).objs.size := by
        rw [Heap.size_push]
        exact Nat.ne_of_lt (Nat.lt_succ_of_lt lS)
      have nS : s.heap.objs.size ∉ [(s.heap.push (set0 led)).objs.size, l] := by
        rw [Heap.size_push]
        simp only [List.mem_cons, List.mem_singleton, List.not_mem_nil, or_false, not_or]
        exact ⟨Nat.ne_of_lt (Nat.lt_succ_self _), Nat.ne_of_gt lS⟩
      refine toy_loop knd ((Walks.list hh3 _ l nI items).toS) s.heap.objs.size nS ks hlen room hv (items.size - 0) 0 _ (by omega) (Nat.zero_le _) ⟨⟨_, Heap.get?_push_size _ rfl, rfl, rfl⟩, (hl1.push _)⟩ ?start0 ?done0
      case start0 =>
        have there : ((s.heap.push (set0 led)).push { cls := .type "list_iterator", data := .fields #[.ref l, .int 0 0] }).get? s.heap.objs.size = some (set0 led) := Heap.get?_push_of_some _ hS
        exact SetOf_congr ((setObjOf_fresh (knd := knd) led).setOf there (by unfold scanBound; omega)) (fun _ => rfl) rfl
      case done0 =>
        intro s' mv hS'
        obtain ⟨h', g', d', tk', os'⟩ := s'
        have eg : g' = s.gens := mv.gens
        have ed : d' = s.drawn := mv.drawn
        have eo : os' = s.os := mv.os
        subst eg ed eo
        refine wpAny_pure ?_
        show wpAny _ _ (ret Value.none) _ _ _
        refine wpAny_pure ⟨rfl, h', tk', rfl, hS', fun b o hb e => ?_⟩
        have n1 : b ≠ s.heap.objs.size := Nat.ne_of_lt hb
        have n2 : b ≠ (s.heap.push (set0 led)).objs.size := by
          rw [Heap.size_push]
          exact Nat.ne_of_lt (Nat.lt_succ_of_lt hb)
        exact mv.heap b o (by simp only [List.mem_cons, List.mem_singleton, List.not_mem_nil, or_false, not_or]; exact ⟨n1, n2⟩) (Heap.get?_push_of_some _ (Heap.get?_push_of_some _ e))
    · match r₂, hr₂ with
      | .error e, hr₂ => exact hr₂
      | .ok .next, hr₂ => exact hr₂.elim
      | .ok .brk, hr₂ => exact hr₂.elim
      | .ok .cont, hr₂ => exact hr₂.elim
      | .ok (.ret r), hr₂ =>
        obtain ⟨rfl, h', tk, rfl, hS', hk'⟩ := hr₂
        repeat (any_goals (first | assumption | wp_step))
        exact h _ _ hS' hk'
end
end PySem
set_option Elab.async false
set_option linter.all false
set_option maxRecDepth 100000
set_option maxHeartbeats 3200000
namespace L2
open PySem PySem.Spec PyProof.Rows Toy
section
variable {X : Cx}
theorem strs_vals : ∀ {xs : List Str} {us : List Value}, Vals (xs.map V.str) us → xs.length = us.length ∧ ∀ (i : Nat) v, us[i]? = some v → ∃ x t, xs[i]? = some x ∧ v = Value.str x t
  | [], _, .nil => ⟨rfl, fun i v e => by simp at e⟩
  | x :: xs, _, .cons r t => by
    obtain ⟨k, rfl⟩ := r
    obtain ⟨h1, h2⟩ := strs_vals t
    refine ⟨by rw [List.length_cons, List.length_cons, h1], fun i v e => ?_⟩
    cases i with
    | zero =>
      cases e
      exact ⟨x, k, rfl, rfl⟩
    | succ i => exact h2 i v e
/-- len(set(xs)), xs a list of texts -/
def tLenMet (K : PySem.W.Frag) (ta : TE) : TE := fun σ H Q => ta σ H fun x H1 => ∃ (l : Addr) (xs : List Str), x = .ref l ∧ SqL K H1 l (xs.map V.str) ∧ xs.length ≤ 100 ∧ Q (.int (met xs).length) H1
theorem pe_lenMet {a : Expr} {ta : TE} {p p2 q pos : Pos} (hc : X.calm = true) (hg : Gl X "len") (hm : X.mg "len" = none) (hg2 : Gl X "set") (hm2 : X.mg "set" = none) (ha : PE X a ta)
    (na : starEach [a] X.env = (false, eval a X.env) :: starEach [] X.env := by rfl) : PE X (.Call (.Name "len" p) [.Call (.Name "set" p2) [a] [] q] [] pos) (tLenMet X.K ta) := by
  refine ⟨fun pins s σ H Q I h => ?_⟩
  refine Call_ (ld_blt I hg hm PySem.boot_len ?_)
  refine PyProof.Rows.callWith_builtin1 (PyProof.Rows.args_cons ?_ rfl) rfl rfl
  refine Call_ (ld_blt I hg2 hm2 PyProof.Rows.boot_set ?_)
  refine PyProof.Rows.callWith_type1 (PyProof.Rows.args_cons (thn (ha.run pins s σ H _ I h) fun v s1 ⟨x, H1, I1, r1, q1⟩ => PyProof.Rows.args_nil ?_) na) na rfl
  obtain ⟨l, xs, rfl, hq, h100, q1⟩ := q1
  cases r1
  obtain ⟨its, r, pl, hz⟩ := I1.list hq
  obtain ⟨len1, vals1⟩ := strs_vals r
  have size1 : its.toArray.size = xs.length := by rw [List.size_toArray, len1]
  refine PySem.toy_set (PySem.strKind X.prog X.w) (I1.ok.hd hc) pl.isList size1.symm (by rw [size1]; unfold scanBound; omega) (fun i v e => ?_) fun h' tk hS hk => ?_
  · obtain ⟨x, t, e1, rfl⟩ := vals1 i v (by rw [← Array.getElem?_toList] at e; exact e)
    exact ⟨x, e1, PySem.strKind_is _ _ _ _, rfl⟩
  · refine PyProof.Rows.args_nil ?_
    have le := met_le xs
    obtain ⟨o, es, ep, t, ho, hex, hd, _, _, _, hf, hn⟩ := hS
    have I2 : Inv X pins σ H1 { s1 with heap := h', toks := tk } := I1.kept fun b o e => hk b o (Heap.lt_size e) e
    exact call_len_set ho hex hd hf (by rw [hn]; omega) ⟨.int (met xs).length, H1, I2.tok _, ⟨_, by rw [hn]⟩, q1⟩
end
end L2
namespace PyProof.Rows
open PySem
section
variable {prog : Program} {w : World} {A : Around} {E : Value → Shared → Prop} {s : Shared}
/-- what an iterable tuple is collected to -/
theorem toy_collect {l : Addr} {vs : List Value} {Q : List Value → Shared → Prop} (hl : s.heap.IsTuple l vs.toArray)
    (h : Q vs { s with heap := (s.heap.push (seqObj "list" #[] 0)).update s.heap.objs.size (Obj.mapSeq (· ++ vs.toArray)) }) (hsz : vs.length ≤ sizeLine) : wpAny (model prog w) A (collect (.ref l)) Q E s := by
  obtain ⟨o, ho, hc, n, hd⟩ := id hl
  unfold collect
  refine wpAny_bind (wpAny_runValue (codeAny_builtin entry_proto_collect' ?_))
  show wpAny _ _ (do again (.builtin "list.__iadd__" ⟨[← newList [], .ref l], []⟩)) _ _ s
  refine wpAny_bind (wpAny_newList (wpAny_pure ⟨Code.quiet_builtin _ (by decide +kernel), codeAny_builtin entry_list_iadd' ?_⟩))
  show wpAny _ _ (Builtin.List.listExtendWith (.ref s.heap.objs.size) (.ref l) (.ref s.heap.objs.size)) _ _ { s with heap := s.heap.push (seqObj "list" #[] 0) }
  unfold Builtin.List.listExtendWith
  have ho' : (s.heap.push (seqObj "list" #[] 0)).get? l = some o := Heap.get?_push_of_some _ ho
  refine wpAny_bind (wpAny_typeOf (T := "tuple") ⟨o, ho', hc⟩ ?_)
  have isT : (Value.type "tuple" == Value.type "tuple") = true := by rfl
  rw [if_pos (by rw [isT]; simp)]
  refine wpAny_bind (listItems_at ho' hd ?_)
  refine wpAny_bind (listItems_at (xs := #[]) (n := 0) (Heap.get?_push_size _ rfl) rfl ?_)
  rw [if_neg (by simp)]
  refine wpAny_bind (listUpdate_at (xs := #[]) (n := 0) (Heap.get?_push_size _ rfl) rfl ?_ (Nat.zero_le _) (by show (#[] ++ vs.toArray).size ≤ sizeLine + 1; simp only [Array.size_append, List.size_toArray, List.length_nil]; omega))
  refine wpAny_pure ?_
  show wpAny (model prog w) A (do
      let o ← load s.heap.objs.size
      match o.data with
      | .seq xs _ => pure xs.toList
      | _ => unsupported "internal:collect") Q E { s with heap := (s.heap.push (seqObj "list" #[] 0)).update s.heap.objs.size (Obj.mapSeq (· ++ vs.toArray)) }
  refine wpAny_bind (wpAny_load (get?_update_seq (Heap.get?_push_size _ rfl) _) ?_)
  show wpAny _ _ (pure ((#[] : Array Value) ++ vs.toArray).toList) Q E _
  have same : ((#[] : Array Value) ++ vs.toArray).toList = vs := by simp
  rw [same]
  exact wpAny_pure h
theorem toy_sortedT {κ : PyProof.Rows.KeyKind} (hO : κ.OneLt) {l : Addr} {vs : List Value} {Q : Value → Shared → Prop} (hl : s.heap.IsTuple l vs.toArray) (h0 : KeysOf κ (pairsOf vs))
    (hkk : ∀ v₁ v₂ rest, vs = v₁ :: v₂ :: rest → keyKind' (v₁ :: v₂ :: rest).toArray = pure oneType') (h64 : vs.length < 64)
    (h : ∀ st' : SortSt, (arrOf st').Perm (pairsOf vs) → SortedToK κ (arrOf st') (pairsOf vs).size → Q (.ref (s.heap.objs.size + 1)) { s with heap := sortedAll s.heap vs ((arrOf st').map (·.2)) }) :
    wpAny (model prog w) A (call (.builtin "sorted") [.ref l]) Q E s := by
  refine Calls.call_function_entry kind_sorted plain_sorted entry_sorted (args_sorted1 _) ?_
  unfold Builtin.«sorted»
  refine wpAny_bind (m := checkCount "sorted" 1 1 _) (wpAny_pure (wpAny_bind (toy_collect hl (wpAny_bind (wpAny_newList ?_)) (by rw [sizeLine_eq]; omega))))
  have sz : ((s.heap.push (seqObj "list" #[] 0)).update s.heap.objs.size (Obj.mapSeq (· ++ vs.toArray))).objs.size = s.heap.objs.size + 1 := by
    rw [Heap.size_update, size_push']
  have hoL : (((s.heap.push (seqObj "list" #[] 0)).update s.heap.objs.size (Obj.mapSeq (· ++ vs.toArray))).push (seqObj "list" vs.toArray 0)).get? (s.heap.objs.size + 1) = some (seqObj "list" vs.toArray 0) := by
    rw [← sz]
    exact Heap.get?_push_size _ rfl
  show wpAny _ _ _ _ _ { s with heap := ((s.heap.push (seqObj "list" #[] 0)).update s.heap.objs.size (Obj.mapSeq (· ++ vs.toArray))).push (seqObj "list" vs.toArray 0) }
  rw [sz]
  exact wpAny_bind (wpAny_holding (wpAny_call_entry slot_list_sort ⟨_, hoL, rfl⟩ entry_list_sort (list_sort_treeK hO hoL h0 hkk h64 fun st' a1 a2 => ⟨_, rfl, wpAny_pure ⟨_, rfl, h st' a1 a2⟩⟩) (args_list_sort _)))
end
end PyProof.Rows
namespace L2
open PySem PySem.Spec PyProof.Rows Toy
section
variable {X : Cx}
/-- sorted(t), t a tuple of texts -/
def rSortTS (K : PySem.W.Frag) : List V → Hp → VK → Prop := fun vs H Q => ∃ (a : Addr) (xs : List Str), vs = [V.ref a] ∧ SqT K H a (xs.map V.str) ∧ xs.length < 64 ∧
  ∀ (ys : List Str) (p : Addr), ys.Perm xs → sortedS ys = true → H p = none → Q (.ref p) (upd H p (.lst (ys.map V.str)))
theorem cr_sortTS : CallR X (.builtin "sorted") (rSortTS X.K) := by
  intro pins s σ H xs us Q I r h
  obtain ⟨a, xs, rfl, hs, h64, q⟩ := h
  obtain ⟨its, rv, hl, _⟩ := I.tuple hs
  rw [Vals.ref1 r]
  have len1 := rv.length
  rw [List.length_map] at len1
  have hS := rv.strs
  refine toy_sortedT strKind_oneLt hl hS.keysOf (fun v₁ v₂ rest e => keyKind_strs (by rw [← e]; exact hS)) (by rw [← len1]; exact h64) fun st' hp hsd => ?_
  obtain ⟨ys, h1, h2, h3⟩ := sorted_out_str hS hp hsd
  obtain ⟨ep, at_⟩ := PyProof.Rows.sortedAll_at s.heap its ((arrOf st').map (·.2))
  have small : (ys.map V.str).length ≤ sizeLine := by
    rw [List.length_map, h2.length_eq]
    exact small64 h64
  exact ⟨.ref _, upd H (s.heap.objs.size + 1) (.lst (ys.map V.str)), I.laid (t' := s.toks) (fun _ _ => PyProof.Rows.sortedAll_old) (Nat.le_succ _) ⟨small, _, ep, vals_of_strs h1, at_⟩, rfl, q ys _ h2 h3 (I.hok.fresh (Nat.le_succ _))⟩
end
end L2
set_option Elab.async false
set_option linter.all false
set_option maxRecDepth 100000
set_option maxHeartbeats 3200000
namespace PySem.W
open PySem PySem.Spec PySem.Calls PyProof.Rows
section
variable {prog : Program} {w : World} {A : Around} {E : Value → Shared → Prop} {s : Shared} {K : Frag} {x C f L : Addr} {h₀ : Heap} {m : Str → Option Value} {ox : Obj} {od : Option Obj} {b tb : Value}
theorem toy_in1 (A : Around) : A.in1.units ≤ A.units + 1 := by
  first | exact Nat.le_refl _ | exact Nat.le_succ _ | simp [Around.in1]
/-- x != b by x's own __eq__ -/
theorem toy_ne {Q : Value → Shared → Prop} (hu : A.units + 1 < cLine) (X : K.In s.heap) (I : InstAt s.heap x ox C od) (hb : Looks (model prog w) s.heap (typeOf b) tb) (hn : notFirst K C tb = true)
    (hs : findIn K (.ref C) "__eq__" = some (some (.ref f))) (hf : isFn K (.ref f) = true) (hne : findIn K (.ref C) "__ne__" = some (some (.builtin "object.__ne__"))) (hm : mroIn K C (.type "object") = some true)
    (h : wpAny (model prog w) A.in1 (call (.ref f) [.ref x, b]) (fun v s' => ∃ r, v = .bool r ∧ Q (.bool (!r)) s') E s) : wpAny (model prog w) A (richCompare .NotEq (.ref x) b) Q E s := by
  have sub : Looks (model prog w) s.heap (isInstance (.ref x) (.type "object")) true := I.type.andThen (looks_mroIn X hm)
  have body : wpAny (model prog w) A.in1 (Builtin.«object.__ne__» ⟨[.ref x, b], []⟩) (GQ.FinOf prog w A (wants (fun v s' => v ≠ .notImplemented ∧ Q v s') E)) (fun e s' => wants (fun v s' => v ≠ .notImplemented ∧ Q v s') E (.error e) s') s := by
    unfold Builtin.«object.__ne__»
    refine wpAny_bind (wpAny_of_eq (a := ((Value.ref x : Value), [b])) (by first | rfl | (simp only [slotArgs]; rfl)) ?_)
    refine wpAny_bind (wpAny_cRoomFor (Nat.lt_of_le_of_lt (toy_in1 A) hu) ?_)
    refine wpAny_bind (ifBound_K X I hs hf (wpAny_mono h (fun v s' hv => ?_) fun _ _ e => e))
    obtain ⟨r, rfl, q⟩ := hv
    show wpAny _ _ (do let t ← truthy (.bool r); ret (.bool (!t))) _ _ _
    exact wpAny_bind (wpAny_truthy_bool (wpAny_pure ⟨(fun z => nomatch z), q⟩))
  have one : wpAny (model prog w) A (tryCompare (.ref x) "__ne__" b) (fun r s' => ∃ v, r = some v ∧ Q v s') E s := by
    unfold tryCompare callSpecialIfBound? bindSpecialIfBound?
    have called : wpAny (model prog w) A (call (.builtin "object.__ne__") [.ref x, b]) (fun v s' => v ≠ .notImplemented ∧ Q v s') E s :=
      wpAny_call (codeAny_call_builtin PySem.F.cmp_object.ne.plain PySem.F.cmpEntry_ne (check_slot PySem.F.cmpKind_ne PySem.F.cmpSplit_ne sub (PySem.F.cmpArgs_ne (.ref x) b) body))
    have fin : ∀ {R : Option Value → Shared → Prop}, (∀ v s', v ≠ .notImplemented → Q v s' → R (some v) s') → wpAny (model prog w) A (call (.builtin "object.__ne__") ([.ref x] ++ [b]) >>= fun v => pure (some v)) R E s :=
      fun hR => wpAny_bind (wpAny_mono called (fun v s' hv => wpAny_pure (hR v s' hv.1 hv.2)) fun _ _ e => e)
    have back : ∀ v s', v ≠ Value.notImplemented → Q v s' → wpAny (model prog w) A (match (some v : Option Value) with | some .notImplemented => pure none | none => pure none | some v => pure (some v)) (fun r s' => ∃ v, r = some v ∧ Q v s') E s' := fun v s' n q => by
      cases v <;> first | exact absurd rfl n | exact wpAny_pure ⟨_, rfl, q⟩
    refine wpAny_bind (wpAny_holding (wpAny_bind (wpAny_bind (wpAny_bind (I.type.here ((looks_findIn X hne).here ?_))))))
    refine wpAny_bind (wpAny_askSetting (wpAny_ite ?_))
    have bd : bindSpecial (.builtin "object.__ne__") (.ref x) = pure (.builtin "object.__ne__", [.ref x]) := PySem.F.cmp_object.ne.bind (.ref x)
    rw [bd]
    split
    · exact wpAny_bind (wpAny_pure (wpAny_pure (by exact fin back)))
    · exact wpAny_tryCatch (wpAny_bind (wpAny_pure (wpAny_pure (by exact fin back))))
  unfold richCompare
  simp only [oneThing_ref, cmpInfo_NotEq]
  refine wpAny_holding (wpAny_bind (wpAny_cRoomFor (by omega) (wpAny_bind (I.type.here (wpAny_bind (hb.here ?_))))))
  split
  · rename_i q
    have e : subIn K tb (.ref C) = some false := by
      rcases Bool.or_eq_true_iff.mp hn with e | e
      · rw [beq_iff_eq.mp e] at q
        simp at q
      · exact beq_iff_eq.mp e
    refine wpAny_bind ((looks_subIn X e).here ?_)
    simp only [Bool.false_eq_true, if_false]
    refine wpAny_bind (wpAny_mono one (fun r s' z => ?_) fun _ _ e => e)
    obtain ⟨v, rfl, hq⟩ := z
    exact wpAny_pure hq
  · refine wpAny_bind (wpAny_pure ?_)
    simp only [Bool.false_eq_true, if_false]
    refine wpAny_bind (wpAny_mono one (fun r s' z => ?_) fun _ _ e => e)
    obtain ⟨v, rfl, hq⟩ := z
    exact wpAny_pure hq
end
end PySem.W
namespace L2
open PySem PySem.Spec PyProof.Rows Toy
section
variable {X : Cx}
/-- a == y, a an instance of the class at C with an own __eq__ -/
def rEqO (K : PySem.W.Frag) (C : Addr) (sp : Sp) (E : XK) (neg : Bool) : R2 := fun x y H Q => ∃ (a dx : Addr) (fs : List (Str × V)) (t : Value), x = .ref a ∧ H a = some (.ins C dx fs) ∧ TyX K H y t ∧ PySem.W.notFirst K C t = true ∧
  sp [x, y] H (fun v H' => ∃ b, v = .bl b ∧ Q (.bl (if neg then !b else b)) H') E
/-- what the class must say of == and != -/
structure EqC (K : PySem.W.Frag) (C f : Addr) : Prop where
  eq : PySem.W.findIn K (.ref C) "__eq__" = some (some (.ref f))
  fn : PySem.W.isFn K (.ref f) = true
  ne : PySem.W.findIn K (.ref C) "__ne__" = some (some (.builtin "object.__ne__"))
  ob : PySem.W.mroIn K C (.type "object") = some true
variable {CXq : CXT} {C f : Addr} {k : Nat} {fd : FuncData} {ps : List Str} {sp : Sp} {E : XK}
theorem op_eqO (T : EqC X.K C f) (F : FnOk X.prog X.w X.K X.mg X.base CXq k f fd ps sp) (hr : Room k X.A) (hb : Binds X.K fd ps []) (hx : Passes CXq X E) : OpR X (compareOp .Eq) (rEqO X.K C sp E false) := by
  intro pins s σ H x y v u Q I rx ry h
  obtain ⟨a, dx, fs, t, rfl, ha, ty, hn, hsp⟩ := h
  obtain rfl : v = Value.ref a := rx
  obtain ⟨mA, J, _⟩ := ins_get I.hok ha
  obtain ⟨od, J, _⟩ := J.look
  obtain ⟨Pq, Z, pq, _⟩ := kit_of I ry ty
  obtain ⟨m, fr⟩ := I.fr
  show wpAny (model X.prog X.w) X.A (richCompare .Eq (.ref a) u) (EP X pins σ Q) X.xe s
  refine PySem.W.cmp_K (op := .Eq) (tb := t) hr.units0 fr I.ok.mod.kin J (Z.ty _ _ I.kIn pq) hn T.eq T.fn ?_
  have hl := F.len _ _ _ _ hsp
  have r2 : Vals [V.ref a, y] [Value.ref a, u] := .cons rfl (.cons ry .nil)
  have bnd := hb s [.ref a, u] I.kIn (by rw [List.append_nil, ← hl]; rfl)
  rw [List.append_nil] at bnd
  refine wpAny_call (codeAny_mono (F.run X.A X.stack s H ⟨[.ref a, u], []⟩ _ _ _ E hr I.env0 bnd r2 hsp) fun r s' hq => ?_)
  match r, hq with
  | .error e, hq => exact hx pins σ H s e s' I hq
  | .ok .next, hq => exact hq.elim
  | .ok .brk, hq => exact hq.elim
  | .ok .cont, hq => exact hq.elim
  | .ok (.ret z), hq =>
    obtain ⟨v2, H', J', rz, b, rfl, q⟩ := I.after hq
    obtain rfl : z = Value.bool b := rz
    exact ⟨.bl b, H', J', rfl, q⟩
theorem op_neO (T : EqC X.K C f) (F : FnOk X.prog X.w X.K X.mg X.base CXq k f fd ps sp) (hr : Room (k + 1) X.A) (hb : Binds X.K fd ps []) (hx : ∀ pins σ H s e s', L2.Inv X pins σ H s → CXq X.stack H s E e s' → X.xe e s') : OpR X (compareOp .NotEq) (rEqO X.K C sp E true) := by
  intro pins s σ H x y v u Q I rx ry h
  obtain ⟨a, dx, fs, t, rfl, ha, ty, hn, hsp⟩ := h
  obtain rfl : v = Value.ref a := rx
  obtain ⟨mA, J, _⟩ := ins_get I.hok ha
  obtain ⟨od, J, _⟩ := J.look
  obtain ⟨Pq, Z, pq, _⟩ := kit_of I ry ty
  show wpAny (model X.prog X.w) X.A (richCompare .NotEq (.ref a) u) (EP X pins σ Q) X.xe s
  refine PySem.W.toy_ne (tb := t) (by have := hr.units; omega) I.kIn J (Z.ty _ _ I.kIn pq) hn T.eq T.fn T.ne T.ob ?_
  have hl := F.len _ _ _ _ hsp
  have r2 : Vals [V.ref a, y] [Value.ref a, u] := .cons rfl (.cons ry .nil)
  have bnd := hb s [.ref a, u] I.kIn (by rw [List.append_nil, ← hl]; rfl)
  rw [List.append_nil] at bnd
  refine wpAny_call (codeAny_mono (F.run X.A.in1 X.stack s H ⟨[.ref a, u], []⟩ _ _ _ E hr.in1 I.env0.in1 bnd r2 hsp) fun r s' hq => ?_)
  match r, hq with
  | .error e, hq => exact hx pins σ H s e s' I hq
  | .ok .next, hq => exact hq.elim
  | .ok .brk, hq => exact hq.elim
  | .ok .cont, hq => exact hq.elim
  | .ok (.ret z), hq =>
    obtain ⟨v2, H', J', rz, b, rfl, q⟩ := I.after hq
    obtain rfl : z = Value.bool b := rz
    exact ⟨b, rfl, .bl (!b), H', J', rfl, q⟩
end
end L2
set_option Elab.async false
set_option linter.all false
set_option maxRecDepth 100000
set_option maxHeartbeats 3200000
namespace L2
open PySem PySem.Spec PyProof.Rows Toy
/-- what the first clause 'except x as n' wishes, further clauses behind it: it is the one that catches -/
def wFirst (K : PySem.W.Frag) (c : Value) (i : Nat) (ts : Addr → Value → Option Addr → TS) (D : Ends) : WX := fun cls d σ H =>
  PySem.W.exmOne K cls c = some true ∧ ∀ a, H a = none → ts a cls d ⟨fun σ1 H1 => D.nx (σ1.set i none) H1, D.rt, fun σ1 H1 => D.bk (σ1.set i none) H1, fun σ1 H1 => D.ct (σ1.set i none) H1⟩ (σ.set i (some (.ref a))) H
section
variable {X : Cx} {x n : Str} {c : Value} {i : Nat} {body suite : List Stmt} {b₀ : Stmt} {np pos pos' : Pos} {tb : WX → TS} {ts : Addr → Value → Option Addr → TS} {rest : List ExceptHandler}
theorem ps_try_first (hs : X.stack = X.env :: X.outer) (hf : X.env.frame = some X.env.locals) (hN : X.N.Nodup) (hi : X.N[i]? = some n) (hln : X.env.kindOf n = some .local) (hc : Names X x c)
    (hb : ∀ (W : WX) (pn : List (Addr × Obj)) (xe : Value → Shared → Prop), Takes (X.tr pn xe) W → PassesOwn (model X.prog X.w) X.A X.env xe → PSs (X.tr pn xe) body (tb W))
    (hsu : ∀ (a : Addr) (oe : Obj) (cls : Value) (d : Option Addr) (pn : List (Addr × Obj)), Zc cls d oe → (∃ vs, oe.data = .fields vs) → PSs (X.suite a ((a, oe) :: pn)) (b₀ :: suite) (ts a cls d)) :
    PS X (.Try body (.ExceptHandler (some (.Name x np)) (some n) (b₀ :: suite) pos' :: rest) [] [] pos) (fun D σ H => tb (wFirst X.K c i ts D) D σ H) := by
  refine ⟨fun pins s σ H D I h => ?_⟩
  have okX := I.ok
  have frames : X.A.frames = some (X.env :: X.outer) := by rw [okX.frames, hs]
  refine wpAny_Try_except ?_
  have caught : ∀ (u : Value) (s' : Shared), XE (X.tr (X.pn ++ pins) fun e s₁ => wpAny (model X.prog X.w) X.A (noteFrame e X.env) (fun _ s₂ => wpAny (model X.prog X.w) X.A (setFlight e none) (fun _ s₃ =>
      wpAny (model X.prog X.w) X.A (handleBy e X.env (.ExceptHandler (some (.Name x np)) (some n) (b₀ :: suite) pos' :: rest)) (SP X pins D) X.xe s₃) X.xe s₂) X.xe s₁) (wFirst X.K c i ts D) u s' →
      wpAny (model X.prog X.w) X.A (noteFrame u X.env) (fun _ s₂ => wpAny (model X.prog X.w) X.A (setFlight u none) (fun _ s₃ =>
      wpAny (model X.prog X.w) X.A (handleBy u X.env (.ExceptHandler (some (.Name x np)) (some n) (b₀ :: suite) pos' :: rest)) (SP X pins D) X.xe s₃) X.xe s₂) X.xe s' := by
    rintro u s' ⟨a, B, sI, pinsI, σI, HI, cls, d, rfl, Jtry, nb, up, sky, na, os, ag, match_, run⟩
    have J := Jtry.ofTry okX
    have skyX : Sky B (X.env :: X.outer) a (Zc cls d) X.env.locals s'.heap := by
      rw [← hs]
      exact sky
    refine Sky.land Zc.steady frames hf skyX fun h3 fly3 up3 => ?_
    have J3 : Inv X pins σI HI { s' with heap := h3 } := J.landed nb fly3.1 (up.trans up3) os ag
    obtain ⟨o3, v3, at3, z3, f3⟩ := fly3.there
    have away : a ∉ frs (X.env :: X.outer) := fun hm => by
      obtain ⟨_, o', e', hnf⟩ := fly3.2.2.1.mem hm
      rw [at3] at e'
      cases e'
      exact hnf _ f3
    have awayL : a ≠ X.env.locals := fun z => away (List.mem_filterMap.mpr ⟨X.env, List.mem_cons_self, by rw [hf, z]⟩)
    have awayF : a ∉ X.fs := fun hm => by
      obtain ⟨e, he, q⟩ := List.mem_filterMap.mp hm
      exact away (List.mem_filterMap.mpr ⟨e, List.mem_cons_of_mem _ he, q⟩)
    have S3 := J3.suite at3 f3 na awayL awayF
    refine wpAny_handleBy_cons (codeAny_handlers_test ?_) (by intro q; cases q)
    have looksT : PySem.W.Looks (model X.prog X.w) h3 (typeOf (.ref a)) cls := fun A Q E s k q => wpAny_typeOf_ref (k _ _ at3) (by rw [z3.1]; exact q)
    have looksM := PySem.W.exm_one (M := model X.prog X.w) (J3.kIn) looksT match_
    have named : ∀ {Q : Value → Shared → Prop} {E : Value → Shared → Prop}, Q c { s' with heap := h3 } → wpAny (model X.prog X.w) (X.A.mark (some (.ref a))) (eval (.Name x np) X.env) Q E { s' with heap := h3 } := fun {Q E} q => by
      rcases hc with ⟨hg, dbg, hm | ⟨hm, hv, hnn⟩⟩
      · exact ld_glob (X := X.suite a ((a, o3) :: (X.pn ++ pins))) S3 hg hm q dbg
      · exact ld_blt (X := X.suite a ((a, o3) :: (X.pn ++ pins))) S3 hg hm hv q hnn dbg
    refine named (looksM.here (codeAny_handlers_suite_as ?_))
    refine HandSPX.lands_againZ fly3 fun h4 fly4 up4 => ?_
    have J4 : Inv X pins σI HI { s' with heap := h4 } := J.landed nb fly4.1 ((up.trans up3).trans up4) os ag
    obtain ⟨o4, v4, at4, z4, f4⟩ := fly4.there
    refine store_ok (X := X.suite a ((a, o4) :: (X.pn ++ pins))) (v := .ref a) (J4.suite at4 f4 na awayL awayF) hN hi (.inl hln) rfl (fun s5 S5 => ?_) (.inr hln)
    refine wpAny_mono ((hsu a o4 cls d (X.pn ++ pins) z4 ⟨_, f4⟩).run [] s5 _ HI _ S5 (run a na)) (fun f s6 hsp => ?_) (fun _ _ z => False.elim z)
    have leave : ∀ {σ6 : L2.St} {H6 : Hp} {Q : Shared → Prop}, Inv (X.suite a ((a, o4) :: (X.pn ++ pins))) [] σ6 H6 s6 → (∀ s7, Inv X pins (σ6.set i none) H6 s7 → Q s7) →
        wpAny (model X.prog X.w) X.A (do bindName X.env n .none; unbindBehindTheSuite X.env n pos') (fun _ s7 => Q s7) X.xe s6 := fun {σ6 H6 Q} S6 hq => gone_ok (S6.unsuite okX) hN hi hln hq
    match f, hsp with
    | .next, ⟨σ6, H6, S6, q6⟩ => exact leave S6 fun s7 J7 => ⟨_, _, J7, q6⟩
    | .brk, ⟨σ6, H6, S6, q6⟩ => exact leave S6 fun s7 J7 => ⟨_, _, J7, q6⟩
    | .cont, ⟨σ6, H6, S6, q6⟩ => exact leave S6 fun s7 J7 => ⟨_, _, J7, q6⟩
    | .ret u, ⟨v6, σ6, H6, S6, r6, q6⟩ => exact leave S6 fun s7 J7 => ⟨_, _, _, J7, r6, q6⟩
  refine wpAny_mono ((hb (wFirst X.K c i ts D) (X.pn ++ pins) _ caught PassesOwn.looking).run [] s σ H D (I.toTry _) h) (fun f s1 hsp => ?_) (fun e s1 he => he)
  match f, hsp with
  | .next, ⟨σ1, H1, J1, q⟩ => exact wpAny_execs_nil ⟨σ1, H1, J1.ofTry okX, q⟩
  | .brk, ⟨σ1, H1, J1, q⟩ => exact ⟨σ1, H1, J1.ofTry okX, q⟩
  | .cont, ⟨σ1, H1, J1, q⟩ => exact ⟨σ1, H1, J1.ofTry okX, q⟩
  | .ret u, ⟨v, σ1, H1, J1, r, q⟩ => exact ⟨v, σ1, H1, J1.ofTry okX, r, q⟩
/-- isinstance(e, cs) of the exception that the suite holds, its class at C, its dict at d; cs one class or a tuple of classes -/
def rIsH (K : PySem.W.Frag) (C a d : Addr) : List V → Hp → VK → Prop := fun xs H Q => ∃ (c : V) (b : Bool), xs = [.ref a, c] ∧ (∃ fs, H d = some (.xd fs)) ∧
  ((∃ cv, ClsV c cv ∧ PySem.W.kitOne K (.ref C) cv = some b) ∨ (∃ (tp : Addr) (cs : List V) (us : List Value), c = .ref tp ∧ H tp = some (.tup cs) ∧ Paired ClsV cs us ∧ PySem.W.kitAny K (.ref C) us = some b)) ∧ Q (.bl b) H
theorem call_isH {C a d : Addr} {oe : Obj} {cls : Value} {dd : Option Addr} {pn : List (Addr × Obj)} (T : ExcC X.K C) (hz : Zc cls dd oe) (hf : ∃ vs, oe.data = .fields vs) (ec : cls = .ref C) (ed : dd = some d) :
    CallR (X.suite a ((a, oe) :: pn)) (.builtin "isinstance") (rIsH X.K C a d) := by
  subst ec ed
  intro pins s σ H xs us Q I r h
  obtain ⟨c, b, rfl, ⟨fs, hd⟩, kc, q⟩ := h
  obtain ⟨u1, u2, rfl, r1, r2⟩ := vals2 r
  obtain rfl : u1 = Value.ref a := r1
  obtain ⟨hget, _⟩ := I.pin (a, oe) (List.mem_append.mpr (.inl List.mem_cons_self))
  obtain ⟨vs, hv⟩ := hf
  have hx : ObjOk X.prog X.w H s.heap d (.xd fs) := I.hok d _ hd
  obtain ⟨mA, hns, _⟩ := hx
  obtain ⟨od, ho, _⟩ := lookIn_ns hns
  have J : PySem.W.InstAt s.heap a oe C (some od) := ⟨hget, hz.1, by unfold PySem.W.notCls; rw [hv] <;> rfl, by rw [hz.2]; exact ho⟩
  obtain ⟨cd, hcd, _⟩ := PySem.W.any_some T.hd
  have Z := PySem.W.kitx_exc (K := X.K) (x := a) (C := C) (ox := oe) (od := some od) (by rw [hcd]; rfl) T.hg T.hk T.hs T.ha T.hn T.ht T.hm
  rcases kc with ⟨cv, k1, e⟩ | ⟨tp, cs, ws, rfl, ht, k1, e⟩
  · have e2 := k1.eq r2
    subst e2
    exact PySem.W.kia_one Z I.kIn J e (by intro z; cases z) fun tk => ⟨.bl b, H, I.tok tk, rfl, q⟩
  · obtain rfl : u2 = Value.ref tp := r2
    obtain ⟨_, its, rv, o, h1, h2, n, h3⟩ := (show ObjOk X.prog X.w H s.heap tp (.tup cs) from I.hok tp _ ht)
    have e3 := ClsV.all k1 rv
    subst e3
    obtain ⟨oc, od2, dt, sl⟩ := o
    simp only at h2 h3
    subst h2 h3
    exact PySem.W.kia_tup Z I.kIn J h1 e (by intro z; cases z) fun tk => ⟨.bl b, H, I.tok tk, rfl, q⟩
end
end L2
set_option Elab.async false
set_option linter.all false
set_option maxRecDepth 100000
namespace Toy
open PySem L2
def top (i : Nat) : Stmt := PySem.Challenge.pw_endsum_k48_whole_cut_and_sewn.main.body.getD i (.Pass ⟨0, 0, 0, 0⟩)
abbrev sNumber : Stmt := top 3
abbrev sName : Stmt := top 4
abbrev sPair : Stmt := top 5
abbrev sList : Stmt := top 6
abbrev sUnlike : Stmt := top 7
abbrev sNoSt : Stmt := inClass (top 10) 0
abbrev sNoDr : Stmt := inClass (top 11) 0
abbrev sDInit : Stmt := inClass (top 19) 0
abbrev sDEq : Stmt := inClass (top 19) 1
abbrev sPlaces : Stmt := top 20
abbrev sCorners : Stmt := top 21
abbrev sLegs : Stmt := top 22
abbrev sIsLeg : Stmt := top 23
abbrev sIsJoin : Stmt := top 25
abbrev sAllEnds : Stmt := top 26
abbrev sInit : Stmt := inClass (top 46) 0
abbrev sEq : Stmt := inClass (top 46) 1
abbrev sSorts : Stmt := top 47
abbrev sKinds : Stmt := top 48
abbrev sKind : Stmt := top 49
abbrev sEnds : Stmt := top 50
abbrev sSrc : Stmt := top 52
abbrev sNext : Stmt := top 53
abbrev sOne : Stmt := top 54
abbrev sNames : Stmt := top 55
abbrev sStock : Stmt := top 56
abbrev sLaw : Stmt := top 65
abbrev sAreJoins : Stmt := top 24
abbrev sPaired : Stmt := top 60
abbrev sLEnds : Stmt := top 57
abbrev sLacking : Stmt := top 58
abbrev sMixed : Stmt := top 59
abbrev sDrawing : Stmt := top 61
abbrev sPMoved : Stmt := top 27
abbrev sInner : Stmt := top 35
abbrev sHasInner : Stmt := top 37
abbrev sNewNames : Stmt := top 38
abbrev sAmong : Stmt := top 39
abbrev sCut : Stmt := top 36
abbrev sJoinLegs : Stmt := top 40
abbrev sBeyond : Stmt := top 41
abbrev sLInner : Stmt := top 62
abbrev sMade : Stmt := top 63
abbrev sHang : Stmt := top 31
abbrev sManyPl : Stmt := top 30
abbrev sPart : Stmt := top 32
abbrev sParts : Stmt := top 29
abbrev sIsWhole : Stmt := top 33
abbrev sCuts : Stmt := top 34
abbrev sRight : Stmt := top 64
end Toy
set_option Elab.async false
set_option linter.all false
set_option maxRecDepth 100000
namespace Toy
open PySem L2
/-! ### draws: a source of numbers -/
/-- at p stands a source from which at most n have been mixed -/
def SrcAt (H : Hp) (p : Addr) (n : Nat) : Prop := ∃ a b c : Int, H p = some (.lst [.int a, .int b, .int c]) ∧ 0 ≤ b ∧ b < 2147483647 ∧ 0 ≤ c ∧ c ≤ (n : Int)
/-- all that was tracked, but p, is as it was -/
def Off (p : Addr) (H H' : Hp) : Prop := ∀ b o, H b = some o → b ≠ p → H' b = some o
theorem Off.refl (p : Addr) (H : Hp) : Off p H H := fun _ _ h _ => h
theorem Off.trans {p : Addr} {H H1 H2 : Hp} (a : Off p H H1) (b : Off p H1 H2) : Off p H H2 := fun c o h n => b c o (a c o h n) n
theorem Off.upd {p : Addr} {H : Hp} {o : HO} : Off p H (upd H p o) := fun _ _ h n => (upd_ne n).trans h
theorem Off.new {p q : Addr} {H H1 : Hp} {o : HO} (a : Off p H H1) (n : H1 q = none) : Off p H (L2.upd H1 q o) := fun b u h nb => by
  have z := a b u h nb
  exact (upd_ne (ne_of_none z n)).trans z
theorem same_new {H : Hp} {p : Addr} {o : HO} (h : H p = none) : Same H (upd H p o) := fun b x e => by
  rw [upd_ne (ne_of_none e h)]
  exact e
theorem Same.off {p : Addr} {H H' : Hp} (h : Same H H') : Off p H H' := fun b o e _ => h b o e
def spSrc : Sp := fun vs H Q _ => ∃ c : Int, vs = [.int c] ∧ ∀ p H', H p = none → SrcAt H' p 0 → Same H H' → Q (.ref p) H'
def spNext : Sp := fun vs H Q _ => ∃ (p : Addr) (m : Int) (n : Nat), vs = [.ref p, .int m] ∧ SrcAt H p n ∧ 1 ≤ m ∧ m ≤ 1000000 ∧ n ≤ 100000 ∧
  ∀ r H', 0 ≤ r → r < m → SrcAt H' p (n + 1) → Off p H H' → Q (.int r) H'
def spOne : Sp := fun vs H Q _ => ∃ (p q : Addr) (xs : List V) (n : Nat), vs = [.ref p, .ref q] ∧ SrcAt H p n ∧ n ≤ 100000 ∧ H q = some (.lst xs) ∧ q ≠ p ∧ 1 ≤ xs.length ∧ xs.length ≤ 1000 ∧
  ∀ x H', x ∈ xs → SrcAt H' p (n + 1) → Off p H H' → Q x H'
def primes : List V := [.int 2147483647, .int 2147483629, .int 2147483587, .int 2147483579, .int 2147483563, .int 2147483549, .int 2147483543]
theorem prime_at (i : Int) (h0 : 0 ≤ i) (h7 : i < 7) : ∃ v : Int, atI primes i = some (.int v) ∧ 1000 < v ∧ v ≤ 2147483647 := by
  obtain ⟨j, rfl⟩ := Int.eq_ofNat_of_zero_le h0
  have hj : j < 7 := by omega
  match j, hj with
  | 0, _ => exact ⟨_, rfl, by decide, by decide⟩
  | 1, _ => exact ⟨_, rfl, by decide, by decide⟩
  | 2, _ => exact ⟨_, rfl, by decide, by decide⟩
  | 3, _ => exact ⟨_, rfl, by decide, by decide⟩
  | 4, _ => exact ⟨_, rfl, by decide, by decide⟩
  | 5, _ => exact ⟨_, rfl, by decide, by decide⟩
  | 6, _ => exact ⟨_, rfl, by decide, by decide⟩
section
variable {P : Program} {w : World} {K : PySem.W.Frag} {mg : Str → Option Value} {base : Heap}
theorem scSrc : FnScope ["_law_cell"] ["_law_cell"] (defScope sSrc) := ⟨rfl, rfl, rfl, by decide +kernel, rfl, by decide +kernel, by decide +kernel⟩
theorem ok_src {f : Addr} {fd : FuncData} (F : Fun K "_law_source_of" "_law_source_of" sSrc f fd) (mi : mg "int" = none) : FnOk P w K mg base CX0 1 f fd ["_law_cell"] spSrc := by
  refine F.ok scSrc (fun vs H Q E h => ?_) (fun cdv A outer s H vs Q E hr h => ?_)
  · obtain ⟨c, rfl, _⟩ := h
    rfl
  · obtain ⟨c, rfl, k⟩ := h
    refine ⟨_, pss_one (ps_ret (pe_lst (pa_cons (pe_op op_mul (pv 0) (pe_callTy call_int1 (by rfl) mi (by decide +kernel) (pa_cons (pe_cmpR op_ge (pv 0) (pe_op op_pow pe_int pe_int) (nomark _)) pa_nil)))
      (pa_cons (pe_op op_mod (pv 0) pe_int) (pa_cons pe_int pa_nil))))), ?_⟩
    refine ⟨_, rfl, _, rfl, _, _, rfl, rfl, ⟨by decide, by decide, by decide⟩, _, _, rfl, rfl, .inr ⟨_, rfl, _, _, rfl, rfl, .inr ?_, ?_⟩⟩
    · split <;> decide
    · refine ⟨_, rfl, _, _, rfl, rfl, (by show (0 : Int) < 2147483647; decide), by show 3 ≤ sizeLine; decide, fun p hp => ?_⟩
      refine k p _ hp ⟨_, _, _, upd_same, ?_, ?_, by decide, by decide⟩ (same_new hp)
      · omega
      · omega
theorem scNext : FnScope ["_law_source", "_law_many", "_law_found", "_law_prime", "_law_figure"] ["_law_source", "_law_many"] (defScope sNext) := ⟨rfl, rfl, rfl, by decide +kernel, rfl, by decide +kernel, by decide +kernel⟩
theorem ix0 {xs : List V} {v : V} : atI (v :: xs) 0 = some v := atI_nat (j := 0) rfl
theorem ix1 {xs : List V} {u v : V} : atI (u :: v :: xs) 1 = some v := atI_nat (j := 1) rfl
theorem ix2 {xs : List V} {u v y : V} : atI (u :: v :: y :: xs) 2 = some y := atI_nat (j := 2) rfl
theorem ok_next {f : Addr} {fd : FuncData} (F : Fun K "_law_next" "_law_next" sNext f fd) : FnOk P w K mg base CX0 1 f fd ["_law_source", "_law_many"] spNext := by
  refine F.ok scNext (fun vs H Q E h => ?_) (fun cdv A outer s H vs Q E hr h => ?_)
  · obtain ⟨p, m, n, rfl, _⟩ := h
    rfl
  · obtain ⟨p, m, n, rfl, ⟨a, b, c, hp, b0, b1, c0, c1⟩, m0, m1, hn, k⟩ := h
    refine ⟨_, pss_cons (ps_if (pt_cmpR op_gt (pe_ix ix_list (pv 0) pe_int (fun _ _ => rfl)) pe_int (nomark _))
        (pss_cons (ps_set (i := 2) scNext.nd rfl (Or.inl rfl) (pe_op op_mod (pe_ix ix_list (pv 0) pe_int (fun _ _ => rfl)) (pv 1)))
        (pss_cons (ps_asg (pe_op op_fdiv (pe_ix ix_list (pv 0) pe_int (fun _ _ => rfl)) (pv 1)) (pg_sub (pv 0) pe_int set_list))
        (pss_one (ps_ret (pv 2))))) pss_nil)
      (pss_cons (ps_asg (pe_op op_add (pe_ix ix_list (pv 0) pe_int (fun _ _ => rfl)) pe_int) (pg_sub (pv 0) pe_int set_list))
      (pss_cons (ps_set (i := 3) scNext.nd rfl (Or.inl rfl) (pe_ix ix_list (pe_lst (pa_cons pe_int (pa_cons pe_int (pa_cons pe_int (pa_cons pe_int (pa_cons pe_int (pa_cons pe_int (pa_cons pe_int pa_nil)))))))) (pe_op op_mod (pe_ix ix_list (pv 0) pe_int (fun _ _ => rfl)) pe_int) (fun _ _ => rfl)))
      (pss_cons (ps_set (i := 4) scNext.nd rfl (Or.inl rfl) (pe_op op_mod (pe_op op_pow (pe_op op_add (pe_op op_add (pe_ix ix_list (pv 0) pe_int (fun _ _ => rfl)) (pe_op op_mul pe_int (pe_ix ix_list (pv 0) pe_int (fun _ _ => rfl)))) pe_int) pe_int) (pv 3)))
      (pss_cons (ps_set (i := 4) scNext.nd rfl (Or.inl rfl) (pe_op op_mod (pe_op op_mul (pe_op op_add (pv 4) (pe_ix ix_list (pv 0) pe_int (fun _ _ => rfl))) (pe_op op_add (pe_op op_fdiv (pv 4) pe_int) pe_int)) (pv 3)))
      (pss_one (ps_ret (pe_op op_mod (pe_op op_fdiv (pv 4) pe_int) (pv 1)))))))), ?_⟩
    -- if source[0] > 0
    refine ⟨_, rfl, p, _, _, _, rfl, rfl, SqL.of hp, ix0, _, _, rfl, rfl, _, rfl, ite2 (fun ha => ?_) (fun ha => ?_)⟩
    · have hm : (0 : Int) < m := by omega
      refine ⟨_, rfl, p, _, _, _, rfl, rfl, SqL.of hp, ix0, _, rfl, _, _, rfl, rfl, hm, ?_⟩
      refine ⟨_, rfl, p, _, _, _, rfl, rfl, SqL.of hp, ix0, _, rfl, _, _, rfl, rfl, ⟨hm, by omega⟩, ?_⟩
      refine ⟨_, rfl, p, _, _, 0, rfl, rfl, hp, rfl, ?_⟩
      refine ⟨_, rfl, ?_⟩
      exact k _ _ (Int.emod_nonneg _ (by omega)) (Int.emod_lt_of_pos _ hm) ⟨_, _, _, upd_same, b0, b1, c0, by omega⟩ Off.upd
    · refine ⟨_, rfl, p, _, _, _, rfl, rfl, SqL.of hp, ix2, _, _, rfl, rfl, ?_⟩
      refine ⟨_, rfl, p, _, _, 2, rfl, rfl, hp, rfl, ?_⟩
      have h1 : upd H p (.lst [.int a, .int b, .int (c + 1)]) p = some (.lst [.int a, .int b, .int (c + 1)]) := upd_same
      refine ⟨by show 7 ≤ sizeLine; decide, fun q hq => ?_⟩
      have npq : p ≠ q := ne_of_none h1 hq
      have h2 : upd (upd H p (.lst [.int a, .int b, .int (c + 1)])) q (.lst primes) p = some (.lst [.int a, .int b, .int (c + 1)]) := (upd_ne npq).trans h1
      obtain ⟨v, hv, v0, v1⟩ := prime_at ((c + 1) % 7) (Int.emod_nonneg _ (by decide)) (Int.emod_lt_of_pos _ (by decide))
      refine ⟨_, rfl, p, _, _, _, rfl, rfl, SqL.of h2, ix2, _, _, rfl, rfl, (by show (0 : Int) < 7; decide), ?_⟩
      refine ⟨q, _, _, _, rfl, rfl, SqL.of upd_same, hv, ?_⟩
      refine ⟨_, rfl, p, _, _, _, rfl, rfl, SqL.of h2, ix1, _, rfl, p, _, _, _, rfl, rfl, SqL.of h2, ix2, _, _, rfl, rfl, .inl ⟨by decide, by decide⟩, _, _, rfl, rfl, _, _, rfl, rfl, _, _, rfl, rfl, ⟨by decide, by decide, by omega⟩, _, rfl, _, _, rfl, rfl, (by show (0 : Int) < v; omega), ?_⟩
      generalize hx : (b + 7919 * (c + 1) + 1) ^ (5 : Int).toNat % v = x
      have x0 : 0 ≤ x := by rw [← hx]; exact Int.emod_nonneg _ (by omega)
      have x1 : x < v := by rw [← hx]; exact Int.emod_lt_of_pos _ (by omega)
      refine ⟨_, rfl, _, rfl, p, _, _, _, rfl, rfl, SqL.of h2, ix2, _, _, rfl, rfl, _, rfl, _, _, rfl, rfl, ⟨by decide, by decide⟩, _, _, rfl, rfl, _, _, rfl, rfl, .inl ⟨by omega, by omega⟩, _, rfl, _, _, rfl, rfl, (by show (0 : Int) < v; omega), ?_⟩
      refine ⟨_, rfl, _, _, rfl, rfl, ⟨by decide, by decide⟩, _, rfl, _, _, rfl, rfl, (by show (0 : Int) < m; omega), ?_⟩
      exact k _ _ (Int.emod_nonneg _ (by omega)) (Int.emod_lt_of_pos _ (by omega)) ⟨_, _, _, h2, b0, b1, by omega, by omega⟩ (Off.upd.new hq)
theorem scOne : FnScope ["_law_source", "_law_some"] ["_law_source", "_law_some"] (defScope sOne) := ⟨rfl, rfl, rfl, by decide +kernel, rfl, by decide +kernel, by decide +kernel⟩
theorem ok_one {f fN : Addr} {fd fdN : FuncData} (F : Fun K "_law_one" "_law_one" sOne f fd) (FN : Fun K "_law_next" "_law_next" sNext fN fdN) (bN : Binds K fdN ["_law_source", "_law_many"] []) (gN : mg "_law_next" = some (.ref fN)) (ml : mg "len" = none) :
    FnOk P w K mg base CX0 2 f fd ["_law_source", "_law_some"] spOne := by
  have GN : FnOk P w K mg base CX0 1 fN fdN ["_law_source", "_law_many"] spNext := ok_next FN
  refine F.ok scOne (fun vs H Q E h => ?_) (fun cdv A outer s H vs Q E hr h => ?_)
  · obtain ⟨p, q, xs, n, rfl, _⟩ := h
    rfl
  · obtain ⟨p, q, xs, n, rfl, hp, hn, hq, nqp, l1, l2, k⟩ := h
    refine ⟨_, pss_one (ps_ret (pe_ix ix_list (pv 1) (pe_call GN hr rfl gN FN.kp bN .nil pass0 (pa_cons (pv 0) (pa_cons (pe_callB call_len_seq (by rfl) ml PySem.boot_len (pa_cons (pv 1) pa_nil)) pa_nil))) (fun _ _ => rfl))), ?_⟩
    refine ⟨_, rfl, _, rfl, _, rfl, q, xs, rfl, .inl (SqL.of hq), p, (xs.length : Int), n, rfl, hp, by omega, by omega, hn, fun r H' r0 r1 hp' off => ?_⟩
    obtain ⟨j, rfl⟩ := Int.eq_ofNat_of_zero_le r0
    have hj : j < xs.length := by omega
    refine ⟨q, xs, _, xs[j], rfl, rfl, SqL.of (off q _ hq nqp), at_of rfl (List.getElem?_eq_getElem hj), ?_⟩
    exact k _ _ (List.getElem_mem hj) hp' off
end
end Toy
set_option Elab.async false
set_option linter.all false
set_option maxRecDepth 100000
set_option maxHeartbeats 2000000
namespace Toy
open PySem PySem.Spec PyProof.Rows L2
/-! ### comprehensions that only make things -/
theorem lc_mapW {J : It} {n : Nat} {G : Hp → Prop} {Y : Nat → Hp → V → Hp → Prop} (w : Walk J n G Y) {g : TG} {te : TE} {vs : List Nat} {σ : L2.St} {H1 : Hp} {D : Addr} {Qd : Hp → Prop} (ys : List V) (hn : ys.length = n) (h1000 : n ≤ 1000) (hD : H1 D = none)
    (hG : ∀ H, Same H1 H → G H) (hY : ∀ i H x H', Y i H x H' → Same H H')
    (step : ∀ i x H H' (R : V → Hp → Prop), i < n → Same H1 H → Y i H x H' → (∀ y H4, ys[i]? = some y → Same H' H4 → R y H4) → g x (wipe σ vs) H' fun σ2 H2 => wipe σ2 vs = wipe σ vs ∧ te σ2 H2 R)
    (hd : ∀ H, Same H1 H → H D = some (.lst ys) → Qd H) :
    ∃ W : Nat → Nat → Hp → Prop, (∃ m, W 0 m (upd H1 D (.lst []))) ∧ ∀ i m H, W i m H →
      (J.stop i H ∧ Qd H) ∨ (J.go i H ∧ ∃ Nx : Hp → Prop, (∀ H', Nx H' → ∃ m', m' < m ∧ W (i + 1) m' H') ∧ ∀ x H', J.yld i H x H' → g x (wipe σ vs) H' fun σ2 H2 => wipe σ2 vs = wipe σ vs ∧ tYes σ2 H2 fun b H3 =>
        if b = true then te σ2 H3 fun y H4 => ∃ acc, H4 D = some (.lst acc) ∧ acc.length < sizeLine ∧ Nx (upd H4 D (.lst (acc ++ [y]))) else Nx H3) := by
  refine lc_it w (fun i H => Same H1 H ∧ H D = some (.lst (ys.take i))) ⟨same_new hD, upd_same⟩ (fun i H _ h => hG H h.1) (fun i x H H' hi h hy => ?_) (fun H h => hd H h.1 (by rw [h.2, List.take_of_length_le (by omega)]))
  obtain ⟨s1, d1⟩ := h
  have s2 := hY i H x H' hy
  refine step i x H H' _ hi s1 hy fun y H4 e s4 => ?_
  have d4 := s4 _ _ (s2 _ _ d1)
  refine ⟨_, d4, ?_, fun b o e2 => ?_, ?_⟩
  · rw [List.length_take]
    exact small1000 (by omega)
  · rw [upd_ne (ne_of_none e2 hD)]
    exact s4 _ _ (s2 _ _ (s1 _ _ e2))
  · rw [upd_same, List.take_add_one, e]
    rfl
theorem bools_at (bs : List Bool) {i : Nat} {b : Bool} (h : bs[i]? = some b) {y : V} (e : (bs.map V.bl)[i]? = some y) : y = .bl b := by
  rw [List.getElem?_map, h] at e
  exact (Option.some.inj e).symm
/-! ### names -/
def LET : Str := "abcdefghijklmnopqrstuvwxyz"
def letter (c : Nat) : Bool := decide (c ∈ LET.cps.toList)
def nameS (x : Str) : Bool := (decide (1 ≤ x.length) && decide (x.length ≤ 8)) && x.cps.toList.all letter
def nameD : PyData → Bool
  | .str x => nameS x
  | _ => false
def spName : Sp := fun vs H Q _ => ∃ (v : V) (d : PyData), vs = [v] ∧ Dt H v d ∧ ∀ H', Same H H' → Q (.bl (nameD d)) H'
structure Mods (mg : Str → Option Value) : Prop where
  let_ : ∃ t, mg "LETTERS" = some (.str LET t)
  most : ∃ t, mg "LONGEST_NAME" = some (.int 8 t)
  ms : ∃ t, mg "MOST_SORTS" = some (.int 3 t)
  mkd : ∃ t, mg "MOST_KINDS" = some (.int 4 t)
  me : ∃ t, mg "MOST_ENDS" = some (.int 5 t)
  isi : mg "isinstance" = none
  str_ : mg "str" = none
  tup_ : mg "tuple" = none
  lst_ : mg "list" = none
  len : mg "len" = none
  all_ : mg "all" = none
  set_ : mg "set" = none
  dict_ : mg "dict" = none
  srt : mg "sorted" = none
section
variable {P : Program} {w : World} {K : PySem.W.Frag} {mg : Str → Option Value} {base : Heap}
theorem scName : FnScope ["thing", "sign"] ["thing"] (defScope sName) := ⟨rfl, rfl, rfl, by decide +kernel, rfl, by decide +kernel, by decide +kernel⟩
theorem ok_name {f : Addr} {fd : FuncData} (F : Fun K "is_name" "is_name" sName f fd) (M : Mods mg) : FnOk P w K mg base CX0 1 f fd ["thing"] spName := by
  obtain ⟨tl, hlet⟩ := M.let_
  obtain ⟨tm, hmost⟩ := M.most
  refine F.ok scName (fun vs H Q E h => ?_) (fun cdv A outer s H vs Q E hr h => ?_)
  · obtain ⟨v, d, rfl, _⟩ := h
    rfl
  · obtain ⟨v, d, rfl, hd, k⟩ := h
    refine ⟨_, pss_cons (ps_if (PW.pt (pw_or (pt_not (pt_val (pe_callB (call_isd (T := "str")) (by rfl) M.isi (by decide +kernel) (pa_cons (pv 0) (pa_cons (pe_bltn (v := .ty "str") (by rfl) M.str_ (by decide +kernel) rfl) pa_nil)))))
        (pw_or1 (pt_not (pt_chain op_le op_le pe_int (pe_callB call_len_str (by rfl) M.len PySem.boot_len (pa_cons (pv 0) pa_nil)) (pe_glob (v := .int 8) (by rfl) hmost ⟨_, rfl⟩)))))) (pss_one (ps_ret pe_bl)) pss_nil)
      (pss_one (ps_ret (pe_callB (cr_all rfl) (by rfl) M.all_ (by decide +kernel) (pa_cons (pe_lc (own := [("sign", 1)]) (g := gName 1) (tt := tYes) rfl scName.nd (pi_str (pv 0)) (blkOk_by (N := ["thing", "sign"]) (sc := defScope sName) (by decide +kernel)) (fun _ _ _ _ _ => pg_name (i := 1) scName.nd rfl (Or.inl rfl)) (fun _ _ _ _ _ => pts_nil)
        (fun _ _ _ _ _ => pe_cmpR op_in_sign (pv 1) (pe_glob (v := .str LET) (by rfl) hlet ⟨_, rfl⟩) rfl)) pa_nil)))), ?_⟩
    refine ⟨_, rfl, v, d, _, rfl, hd, kit_str d, _, rfl, ?_⟩
    have no : (∀ x, d ≠ .str x) → nameD d = false := fun h => by
      cases d <;> first | rfl | exact absurd rfl (h _)
    cases hd with
    | non => exact k _ (Same.refl _)
    | bl b => exact k _ (Same.refl _)
    | int i => exact k _ (Same.refl _)
    | lst e l r => exact k _ (Same.refl _)
    | tup e l r => exact k _ (Same.refl _)
    | dct e => exact k _ (Same.refl _)
    | str x hx =>
      have small : x.length ≤ sizeLine := Nat.le_of_lt (small1000 hx.1)
      refine ⟨_, rfl, x, rfl, small, _, _, rfl, rfl, _, rfl, ite2 (fun h1 => ?_) (fun h1 => ?_)⟩
      · refine ⟨_, _, rfl, rfl, _, rfl, ?_⟩
        have len1 : (1 : Int) ≤ (x.length : Int) := of_decide_eq_true h1
        by_cases h8 : (x.length : Int) ≤ 8
        · rw [decide_eq_true h8]
          refine ⟨_, rfl, x, rfl, fun D hD => ?_⟩
          refine lc_mapW (walk_str (z := x)) (x.cps.toList.map fun c => V.bl (letter c)) (by rw [List.length_map]; exact Array.length_toList) (by exact hx.1) hD (fun _ _ => trivial) (fun i H x H' h => by rw [h.1]; exact Same.refl _) (fun i y H1 H2 R hi s1 hy hR => ?_) (fun H1 s1 hD1 => ?_)
          · obtain ⟨rfl, c, hc, rfl⟩ := hy
            refine ⟨rfl, _, rfl, c, LET, rfl, rfl, hR _ _ ?_ (Same.refl _)⟩
            rw [List.getElem?_map, Array.getElem?_toList, hc]
            rfl
          · refine ⟨D, x.cps.toList.map letter, rfl, ?_, ?_⟩
            · rw [List.map_map]
              exact SqL.of hD1
            · have e : nameD (.str x) = (x.cps.toList.map letter).all id := by
                show ((decide (1 ≤ x.length) && decide (x.length ≤ 8)) && x.cps.toList.all letter) = _
                rw [decide_eq_true (by omega : 1 ≤ x.length), decide_eq_true (by omega : x.length ≤ 8), List.all_map]
                rfl
              rw [← e]
              exact k _ s1
        · rw [decide_eq_false h8]
          have e : nameD (.str x) = false := by
            show ((decide (1 ≤ x.length) && decide (x.length ≤ 8)) && x.cps.toList.all letter) = _
            rw [decide_eq_false (by omega : ¬ x.length ≤ 8), Bool.and_false, Bool.false_and]
          have k2 := k H (Same.refl _)
          rw [e] at k2
          exact k2
      · have e : nameD (.str x) = false := by
          show ((decide (1 ≤ x.length) && decide (x.length ≤ 8)) && x.cps.toList.all letter) = _
          have h2 : ¬ 1 ≤ x.length := fun q => h1 (decide_eq_true (by omega))
          rw [decide_eq_false h2, Bool.false_and, Bool.false_and]
        have k2 := k H (Same.refl _)
        rw [e] at k2
        exact ⟨_, rfl, k2⟩
end
end Toy
set_option Elab.async false
set_option linter.all false
set_option maxRecDepth 100000
set_option maxHeartbeats 2000000
namespace Toy
open PySem PySem.Spec PyProof.Rows L2
/-! ### pairs, lists, unlike things -/
theorem dec_int (a b : Int) : decide (V.int a = V.int b) = decide (a = b) := by
  by_cases h : a = b
  · rw [h, decide_eq_true rfl, decide_eq_true rfl]
  · rw [decide_eq_false h, decide_eq_false fun q => h (V.int.inj q)]
def pairD : PyData → Bool
  | .tuple ds => decide (ds.length = 2)
  | _ => false
def spPair : Sp := fun vs H Q _ => ∃ (v : V) (d : PyData), vs = [v] ∧ Dt H v d ∧ Q (.bl (pairD d)) H
def listD (a b : Int) : PyData → Bool
  | .list ds => decide (a ≤ (ds.length : Int)) && decide ((ds.length : Int) ≤ b)
  | _ => false
def spList : Sp := fun vs H Q _ => ∃ (v : V) (d : PyData) (a b : Int), vs = [v, .int a, .int b] ∧ Dt H v d ∧ Q (.bl (listD a b d)) H
def spUnlike (K : PySem.W.Frag) : Sp := fun vs H Q _ => ∃ (l : Addr) (xs : List Str), vs = [.ref l] ∧ SqL K H l (xs.map V.str) ∧ xs.length ≤ 100 ∧ Q (.bl (decide xs.Nodup)) H
/-! ### kinds' ends -/
def strO : PyData → Str
  | .str x => x
  | _ => Str.empty
abbrev Rows2 := List (Str × Str)
def kvOf (r : Str × Str) : Key × V := (Sum.inr r.1, .str r.2)
def endsD (keys : List Str) : PyData → Bool
  | .tuple ds => (decide (1 ≤ ds.length) && decide (ds.length ≤ 5)) && ((ds.all fun d => nameD d && decide (strO d ∈ keys)) && sortedS (ds.map strO))
  | _ => false
def spEnds : Sp := fun vs H Q _ => ∃ (v : V) (d : PyData) (p : Addr) (rows : Rows2), vs = [v, .ref p] ∧ Dt H v d ∧ H p = some (.dK (rows.map kvOf)) ∧ ∀ H', Same H H' → Q (.bl (endsD (rows.map (·.1)) d)) H'
def kindD (keys : List Str) : PyData → Bool
  | .tuple [n, e] => nameD n && endsD keys e
  | _ => false
def spKind : Sp := fun vs H Q _ => ∃ (v : V) (d : PyData) (p : Addr) (rows : Rows2), vs = [v, .ref p] ∧ Dt H v d ∧ H p = some (.dK (rows.map kvOf)) ∧ ∀ H', Same H H' → Q (.bl (kindD (rows.map (·.1)) d)) H'
def name0 : PyData → Str
  | .tuple (d :: _) => strO d
  | _ => Str.empty
def kindsD (keys : List Str) : PyData → Bool
  | .list ds => (decide (1 ≤ ds.length) && decide (ds.length ≤ 4)) && ((ds.all (kindD keys)) && decide (ds.map name0).Nodup)
  | _ => false
def spKinds : Sp := fun vs H Q _ => ∃ (v : V) (d : PyData) (p : Addr) (rows : Rows2), vs = [v, .ref p] ∧ Dt H v d ∧ H p = some (.dK (rows.map kvOf)) ∧ ∀ H', Same H H' → Q (.bl (kindsD (rows.map (·.1)) d)) H'
theorem val_rows : ∀ (rows : Rows2) (x : Str), (valV (rows.map kvOf) (Sum.inr x)).isSome = decide (x ∈ rows.map (·.1))
  | [], x => rfl
  | r :: rows, x => by
    have ih := val_rows rows x
    by_cases e : r.1 = x
    · rw [List.map_cons, valV_pos (p := kvOf r) (congrArg Sum.inr e), decide_eq_true (by rw [List.map_cons, e]; exact List.mem_cons_self)]
      rfl
    · rw [List.map_cons, valV_neg (p := kvOf r) (fun q => e (Sum.inr.inj q)), ih, List.map_cons]
      by_cases m : x ∈ rows.map (·.1)
      · rw [decide_eq_true m, decide_eq_true (List.mem_cons_of_mem _ m)]
      · rw [decide_eq_false m, decide_eq_false (fun q => (List.mem_cons.mp q).elim (fun z => e z.symm) m)]
/-- the texts of a list of names -/
theorem strs_of {H : Hp} : ∀ {xs : List V} {ds : List PyData}, DtAll H xs ds → (∀ d ∈ ds, nameD d = true) → xs = (ds.map strO).map V.str ∧ ds = (ds.map strO).map PyData.str
  | _, _, .nil, _ => ⟨rfl, rfl⟩
  | _, _, .cons (v := v) (d := d) h t, n => by
    obtain ⟨e1, e2⟩ := strs_of t fun d hd => n d (List.mem_cons_of_mem _ hd)
    have n0 := n _ List.mem_cons_self
    cases h with
    | str x hx =>
      refine ⟨?_, ?_⟩
      · rw [List.map_cons, List.map_cons, ← e1]
        rfl
      · rw [List.map_cons, List.map_cons, ← e2]
        rfl
    | _ => exact absurd n0 (by intro z; cases z)
theorem eqv_strs : ∀ xs ys : List Str, PyData.eqvAll (xs.map .str) (ys.map .str) = decide (xs = ys)
  | [], [] => rfl
  | [], y :: ys => rfl
  | x :: xs, [] => rfl
  | x :: xs, y :: ys => by
    show (PyData.eqv (.str x) (.str y) && PyData.eqvAll (xs.map .str) (ys.map .str)) = _
    rw [eqv_strs xs ys]
    show ((x == y) && decide (xs = ys)) = _
    by_cases e : x = y
    · subst e
      by_cases e2 : xs = ys
      · subst e2
        simp
      · rw [decide_eq_false e2, Bool.and_false, decide_eq_false fun q => e2 (List.cons.inj q).2]
    · have e3 : (x == y) = false := by simpa using e
      rw [e3, Bool.false_and, decide_eq_false fun q => e (List.cons.inj q).1]
theorem ltCps_le (a b : Str) : ltCps a.cps.toList b.cps.toList = false ↔ b.cps.toList ≤ a.cps.toList := by
  rw [ltCps_eq]
  exact ⟨fun h => of_decide_eq_false h, fun h => decide_eq_false h⟩
theorem rising_pw : ∀ (p : Str) (l : List Str), risingS p l = true → (p :: l).Pairwise fun a b => a.cps.toList ≤ b.cps.toList
  | p, [], _ => List.pairwise_singleton _ _
  | p, x :: r, h => by
    have h2 : (!ltCps x.cps.toList p.cps.toList && risingS x r) = true := h
    rw [Bool.and_eq_true] at h2
    have ih := rising_pw x r h2.2
    have hpx : p.cps.toList ≤ x.cps.toList := (ltCps_le x p).mp (by simpa using h2.1)
    refine List.pairwise_cons.mpr ⟨fun y hy => ?_, ih⟩
    rcases List.mem_cons.mp hy with rfl | hy
    · exact hpx
    · exact List.le_trans hpx ((List.pairwise_cons.mp ih).1 y hy)
theorem sorted_pw : ∀ {l : List Str}, sortedS l = true → l.Pairwise fun a b => a.cps.toList ≤ b.cps.toList
  | [], _ => List.Pairwise.nil
  | x :: r, h => rising_pw x r h
theorem str_ext {a b : Str} (h : a.cps.toList = b.cps.toList) : a = b := by
  cases a
  cases b
  exact congrArg _ (Array.toList_inj.mp h)
theorem sorted_one {l m : List Str} (hl : sortedS l = true) (hm : sortedS m = true) (p : l.Perm m) : l = m :=
  List.Perm.eq_of_pairwise (le := fun a b : Str => a.cps.toList ≤ b.cps.toList) (fun a b _ _ h1 h2 => str_ext (List.le_antisymm h1 h2)) (sorted_pw hl) (sorted_pw hm) p
theorem depth_strs : ∀ xs : List Str, PyData.depthAll (xs.map .str) ≤ 1
  | [] => by first | exact Nat.zero_le _ | decide
  | x :: xs => by
    have ih := depth_strs xs
    have e : PyData.depthAll (PyData.str x :: xs.map .str) = max (PyData.depth (.str x)) (PyData.depthAll (xs.map .str)) := by first | rfl | simp [PyData.depthAll]
    rw [List.map_cons, e]
    have e0 : PyData.depth (.str x) ≤ 1 := by first | exact Nat.le_refl _ | exact Nat.zero_le _ | simp [PyData.depth]
    omega
theorem shaped_strs {xs : List Str} (h : PyData.canLayAll0 (xs.map .str) = true) : SeqAt.shaped (.list (xs.map .str)) = true := by
  unfold SeqAt.shaped
  rw [Bool.and_eq_true]
  refine ⟨h, decide_eq_true ?_⟩
  have d := depth_strs xs
  have e : PyData.depth (.list (xs.map .str)) = PyData.depthAll (xs.map .str) + 1 := by first | rfl | simp [PyData.depth, Nat.add_comm]
  rw [e]
  omega
section
variable {P : Program} {w : World} {K : PySem.W.Frag} {mg : Str → Option Value} {base : Heap}
theorem scPair : FnScope ["thing"] ["thing"] (defScope sPair) := ⟨rfl, rfl, rfl, by decide +kernel, rfl, by decide +kernel, by decide +kernel⟩
theorem ok_pair {f : Addr} {fd : FuncData} (F : Fun K "is_pair" "is_pair" sPair f fd) (M : Mods mg) : FnOk P w K mg base CX0 1 f fd ["thing"] spPair := by
  refine F.ok scPair (fun vs H Q E h => ?_) (fun cdv A outer s H vs Q E hr h => ?_)
  · obtain ⟨v, d, rfl, _⟩ := h
    rfl
  · obtain ⟨v, d, rfl, hd, k⟩ := h
    refine ⟨_, pss_one (ps_ret (pe_and (pe_callB (call_isd (T := "tuple")) (by rfl) M.isi (by decide +kernel) (pa_cons (pv 0) (pa_cons (pe_bltn (v := .ty "tuple") (by rfl) M.tup_ (by decide +kernel) rfl) pa_nil)))
      (pe_one (pe_cmpR op_eq (pe_callB call_len_seq (by rfl) M.len PySem.boot_len (pa_cons (pv 0) pa_nil)) pe_int (nomark _))))), ?_⟩
    refine ⟨_, rfl, v, d, _, rfl, hd, kit_tuple d, _, rfl, ?_⟩
    cases hd with
    | @tup a xs ds e l r =>
      refine ⟨_, rfl, a, xs, rfl, .inr ((TupAt.sq e)), rfl, ?_⟩
      rw [dec_int, r.len]
      have e2 : decide (((ds.length : Nat) : Int) = 2) = decide (ds.length = 2) := by
        by_cases q : ds.length = 2
        · rw [decide_eq_true q, decide_eq_true (by omega)]
        · rw [decide_eq_false q, decide_eq_false (by omega)]
      rw [e2]
      exact k
    | _ => exact k
theorem scList : FnScope ["thing", "fewest", "most"] ["thing", "fewest", "most"] (defScope sList) := ⟨rfl, rfl, rfl, by decide +kernel, rfl, by decide +kernel, by decide +kernel⟩
theorem ok_list {f : Addr} {fd : FuncData} (F : Fun K "is_list" "is_list" sList f fd) (M : Mods mg) : FnOk P w K mg base CX0 1 f fd ["thing", "fewest", "most"] spList := by
  refine F.ok scList (fun vs H Q E h => ?_) (fun cdv A outer s H vs Q E hr h => ?_)
  · obtain ⟨v, d, a, b, rfl, _⟩ := h
    rfl
  · obtain ⟨v, d, a, b, rfl, hd, k⟩ := h
    refine ⟨_, pss_one (ps_ret (pe_and (pe_callB (call_isd (T := "list")) (by rfl) M.isi (by decide +kernel) (pa_cons (pv 0) (pa_cons (pe_bltn (v := .ty "list") (by rfl) M.lst_ (by decide +kernel) rfl) pa_nil)))
      (pe_one (pe_chain op_le op_le (pv 1) (pe_callB call_len_seq (by rfl) M.len PySem.boot_len (pa_cons (pv 0) pa_nil)) (pv 2))))), ?_⟩
    refine ⟨_, rfl, v, d, _, rfl, hd, kit_list d, _, rfl, ?_⟩
    cases hd with
    | @lst l xs ds e _ r =>
      refine ⟨_, rfl, _, rfl, l, xs, rfl, .inl (SqL.of e), _, _, rfl, rfl, _, rfl, ?_⟩
      have k2 : Q (.bl (decide (a ≤ (ds.length : Int)) && decide ((ds.length : Int) ≤ b))) H := k
      rw [← r.len] at k2
      by_cases q : a ≤ (xs.length : Int)
      · rw [decide_eq_true q] at k2 ⊢
        refine ⟨_, rfl, _, _, rfl, rfl, ?_⟩
        rw [Bool.true_and] at k2
        exact k2
      · rw [decide_eq_false q] at k2 ⊢
        exact k2
    | _ => exact k
theorem scUnlike : FnScope ["things"] ["things"] (defScope sUnlike) := ⟨rfl, rfl, rfl, by decide +kernel, rfl, by decide +kernel, by decide +kernel⟩
theorem ok_unlike {f : Addr} {fd : FuncData} (F : Fun K "are_unlike" "are_unlike" sUnlike f fd) (M : Mods mg) : FnOk P w K mg base CX0 1 f fd ["things"] (spUnlike K) := by
  refine F.ok scUnlike (fun vs H Q E h => ?_) (fun cdv A outer s H vs Q E hr h => ?_)
  · obtain ⟨l, xs, rfl, _⟩ := h
    rfl
  · obtain ⟨l, xs, rfl, hl, h100, k⟩ := h
    refine ⟨_, pss_one (ps_ret (pe_cmpR op_eq (pe_lenMet rfl (by rfl) M.len (by rfl) M.set_ (pv 0)) (pe_callB call_len_seq (by rfl) M.len PySem.boot_len (pa_cons (pv 0) pa_nil)) (nomark _))), ?_⟩
    refine ⟨_, rfl, l, xs, rfl, hl, h100, _, rfl, l, _, rfl, .inl hl, rfl, ?_⟩
    rw [dec_int, List.length_map]
    have e : decide (((met xs).length : Int) = (xs.length : Int)) = decide xs.Nodup := by
      by_cases q : xs.Nodup
      · rw [decide_eq_true q, decide_eq_true (by rw [(met_full xs).mpr q])]
      · rw [decide_eq_false q, decide_eq_false (fun z => q ((met_full xs).mp (by omega)))]
    rw [e]
    exact k
end
end Toy
set_option Elab.async false
set_option linter.all false
set_option maxRecDepth 100000
set_option maxHeartbeats 4000000
namespace Toy
open PySem PySem.Spec PyProof.Rows L2
theorem dget_rows {H : Hp} {p : Addr} {rows : Rows2} (h : Rd H p (.dK (rows.map kvOf))) (x : Str) : DGet H p (.str x) (valV (rows.map kvOf) (Sum.inr x)) := .inl ⟨_, Sum.inr x, h, rfl, rfl⟩
theorem noDicts_strs : ∀ zs : List Str, noDicts (zs.map .str) = true
  | [] => rfl
  | _ :: zs => noDicts_strs zs
theorem name_str {d : PyData} (h : nameD d = true) : ∃ x, d = .str x := by
  cases d with
  | str x => exact ⟨x, rfl⟩
  | _ => cases h
theorem dt_str {H : Hp} {v : V} {x : Str} (h : Dt H v (.str x)) : v = .str x ∧ okS x := by
  cases h with
  | str _ hx => exact ⟨rfl, hx⟩
theorem allB_at {α : Type} (l : List α) (f : α → Bool) {i : Nat} {d : α} (h : l[i]? = some d) : (l.map fun x => V.bl (f x))[i]? = some (V.bl (f d)) := by
  rw [List.getElem?_map, h]
  rfl
section
variable {P : Program} {w : World} {K : PySem.W.Frag} {mg : Str → Option Value} {base : Heap}
theorem scEnds : FnScope ["ends", "partners", "sort"] ["ends", "partners"] (defScope sEnds) := ⟨rfl, rfl, rfl, by decide +kernel, rfl, by decide +kernel, by decide +kernel⟩
theorem ok_ends {f fN : Addr} {fd fdN : FuncData} (F : Fun K "_are_ends" "_are_ends" sEnds f fd) (M : Mods mg) (GN : FnOk P w K mg base CX0 1 fN fdN ["thing"] spName) (kN : PySem.W.keepIn K (.ref fN) = true) (bN : Binds K fdN ["thing"] []) (gN : mg "is_name" = some (.ref fN)) :
    FnOk P w K mg base CX0 2 f fd ["ends", "partners"] spEnds := by
  obtain ⟨te, hme⟩ := M.me
  refine F.ok scEnds (fun vs H Q E h => ?_) (fun cdv A outer s H vs Q E hr h => ?_)
  · obtain ⟨v, d, p, rows, rfl, _⟩ := h
    rfl
  · obtain ⟨v, d, p, rows, rfl, hd, hp, k⟩ := h
    refine ⟨_, pss_cons (ps_if (PW.pt (pw_or (pt_not (pt_val (pe_callB (call_isd (T := "tuple")) (by rfl) M.isi (by decide +kernel) (pa_cons (pv 0) (pa_cons (pe_bltn (v := .ty "tuple") (by rfl) M.tup_ (by decide +kernel) rfl) pa_nil)))))
        (pw_or1 (pt_not (pt_chain op_le op_le pe_int (pe_callB call_len_seq (by rfl) M.len PySem.boot_len (pa_cons (pv 0) pa_nil)) (pe_glob (v := .int 5) (by rfl) hme ⟨_, rfl⟩)))))) (pss_one (ps_ret pe_bl)) pss_nil)
      (pss_cons (ps_if (pt_not (pt_val (pe_callB (cr_all rfl) (by rfl) M.all_ (by decide +kernel) (pa_cons (pe_lc (own := [("sort", 2)]) (g := gName 2) (tt := tYes) (te := tAndV (tCall spName [] E0 (tCons (tVar 2) tNil)) (tDIn (tVar 2) (tVar 1))) rfl scEnds.nd (pi_tup (pv 0)) (blkOk_by (N := ["ends", "partners", "sort"]) (sc := defScope sEnds) (by decide +kernel)) (fun _ _ _ _ _ => pg_name (i := 2) scEnds.nd rfl (Or.inl rfl)) (fun _ _ _ _ _ => pts_nil)
          (fun _ _ _ _ _ => (by exact pe_and (pe_call GN hr (by rfl) gN kN bN .nil pass0 (pa_cons (pv 2) pa_nil)) (pe_one (pe_cmp (pc_din (hu_of hr) (pv 2) (pv 1)) rfl))))) pa_nil)))) (pss_one (ps_ret pe_bl)) pss_nil)
      (pss_one (ps_ret (pe_cmpR (op_eqD hr.units) (pe_callTy call_list_of (by rfl) M.lst_ (by decide +kernel) (pa_cons (pv 0) pa_nil)) (pe_callB cr_sortTS (by rfl) M.srt (by decide +kernel) (pa_cons (pv 0) pa_nil)) (nomark _))))), ?_⟩
    refine ⟨_, rfl, v, d, _, rfl, hd, kit_tuple d, _, rfl, ?_⟩
    cases hd with
    | non => exact k _ (Same.refl _)
    | bl b => exact k _ (Same.refl _)
    | int i => exact k _ (Same.refl _)
    | str x _ => exact k _ (Same.refl _)
    | lst e l r => exact k _ (Same.refl _)
    | dct e => exact k _ (Same.refl _)
    | @tup a xs ds e l r =>
      have k' : ∀ H', Same H H' → Q (.bl ((decide (1 ≤ ds.length) && decide (ds.length ≤ 5)) && ((ds.all fun d => nameD d && decide (strO d ∈ rows.map (·.1))) && sortedS (ds.map strO)))) H' := k
      refine ⟨_, rfl, a, xs, rfl, .inr ((TupAt.sq e)), _, _, rfl, rfl, _, rfl, ite2 (fun h1 => ?_) (fun h1 => ?_)⟩
      · have len1 : (1 : Int) ≤ (xs.length : Int) := of_decide_eq_true h1
        refine ⟨_, _, rfl, rfl, _, rfl, ?_⟩
        rw [← r.len] at k'
        rw [decide_eq_true (by omega : 1 ≤ xs.length), Bool.true_and] at k'
        by_cases h5 : (xs.length : Int) ≤ 5
        · rw [decide_eq_true h5]
          rw [decide_eq_true (by omega : xs.length ≤ 5), Bool.true_and] at k'
          refine ⟨_, rfl, a, rfl, ⟨_, (TupAt.sq e)⟩, fun D hD => ?_⟩
          refine lc_mapW (walk_tup (K := K) (a := a) (xs := xs)) (ds.map fun d => V.bl (nameD d && decide (strO d ∈ rows.map (·.1)))) (by rw [List.length_map, r.len]) l hD (fun H1 s1 => (TupAt.sq (TupAt.same s1 e))) (fun i H x H' h => by rw [h.1]; exact Same.refl _) (fun i y H1 H2 R hi s1 hy hR => ?_) (fun H1 s1 hD1 => ?_)
          · obtain ⟨rfl, hy⟩ := hy
            obtain ⟨di, hdi, hDi⟩ := r.at_ hy
            have hR' := hR (.bl (nameD di && decide (strO di ∈ rows.map (·.1))))
            refine ⟨rfl, _, rfl, y, di, rfl, hDi.same s1, fun H3 s3 => ⟨_, rfl, ?_⟩⟩
            by_cases hn : nameD di = true
            · obtain ⟨x, rfl⟩ := name_str hn
              obtain ⟨rfl, _⟩ := dt_str hDi
              rw [hn] at hR' ⊢
              refine ⟨_, rfl, _, rfl, p, _, rfl, dget_rows (.inl ((s1.trans s3) _ _ hp)) x, ?_⟩
              rw [val_rows]
              exact hR' _ (by rw [allB_at ds _ hdi, hn]) s3
            · have hn' : nameD di = false := by simpa using hn
              rw [hn'] at hR' ⊢
              exact hR' _ (by rw [allB_at ds _ hdi, hn']) s3
          · refine ⟨D, ds.map fun d => (nameD d && decide (strO d ∈ rows.map (·.1))), rfl, ?_, _, rfl, ?_⟩
            · rw [List.map_map]
              exact SqL.of hD1
            · rw [List.all_map]
              have eall : (ds.all (id ∘ fun d => nameD d && decide (strO d ∈ rows.map (·.1)))) = ds.all fun d => nameD d && decide (strO d ∈ rows.map (·.1)) := rfl
              rw [eall]
              by_cases hall : (ds.all fun d => nameD d && decide (strO d ∈ rows.map (·.1))) = true
              · rw [hall] at k' ⊢
                rw [Bool.true_and] at k'
                have hnm : ∀ d ∈ ds, nameD d = true := fun d hdm => by
                  have q := List.all_eq_true.mp hall d hdm
                  rw [Bool.and_eq_true] at q
                  exact q.1
                obtain ⟨ex, ed⟩ := strs_of r hnm
                have e1 : TupAt H1 a ((ds.map strO).map V.str) := by
                  rw [← ex]
                  exact TupAt.same s1 e
                refine ⟨_, rfl, a, _, rfl, .inr (TupAt.sq e1), fun l1 n1 => ?_⟩
                have t1 := same_new (o := .lst ((ds.map strO).map V.str)) n1
                refine ⟨_, rfl, a, ds.map strO, rfl, TupAt.sq (TupAt.same t1 e1), by rw [List.length_map, ← r.len]; omega, fun ys l2 pm so n2 => ?_⟩
                have can0 : PyData.canLayAll0 ds = true := r.can (by rw [ed]; exact noDicts_strs _)
                have can1 : PyData.canLayAll0 ((ds.map strO).map .str) = true := by
                  rw [← ed]
                  exact can0
                have allS : ∀ zs : List Str, (∀ z ∈ zs, PyData.strOk z = true) → PyData.canLayAll0 (zs.map .str) = true := by
                  intro zs
                  induction zs with
                  | nil => exact fun _ => rfl
                  | cons z zs ih =>
                    intro hz
                    show (PyData.strOk z && PyData.canLayAll0 (zs.map .str)) = true
                    rw [hz z List.mem_cons_self, ih fun q hq => hz q (List.mem_cons_of_mem _ hq)]
                    rfl
                have okx : ∀ zs : List Str, PyData.canLayAll0 (zs.map .str) = true → ∀ z ∈ zs, PyData.strOk z = true := by
                  intro zs
                  induction zs with
                  | nil => exact fun _ z hz => nomatch hz
                  | cons z zs ih =>
                    intro hz q hq
                    have hz2 : (PyData.strOk z && PyData.canLayAll0 (zs.map .str)) = true := hz
                    rw [Bool.and_eq_true] at hz2
                    rcases List.mem_cons.mp hq with rfl | hq
                    · exact hz2.1
                    · exact ih hz2.2 q hq
                have can2 : PyData.canLayAll0 (ys.map .str) = true := allS ys fun z hz => okx _ can1 z (pm.mem_iff.mp hz)
                have dpS : ∀ (zs : List Str) (Hq : Hp), DpAll K Hq (zs.map V.str) (zs.map .str) := by
                  intro zs Hq
                  induction zs with
                  | nil => exact .nil
                  | cons z zs ih => exact .cons (.str z) ih
                have t2 := same_new (o := .lst (ys.map V.str)) n2
                refine ⟨.list ((ds.map strO).map .str), .list (ys.map .str), .lst (SqL.of (t2 _ _ upd_same)) (dpS _ _), .lst (SqL.of upd_same) (dpS _ _), shaped_strs can1, shaped_strs can2, ?_⟩
                have e3 : PyData.eqv (.list ((ds.map strO).map .str)) (.list (ys.map .str)) = sortedS (ds.map strO) := by
                  show PyData.eqvAll ((ds.map strO).map .str) (ys.map .str) = _
                  rw [eqv_strs]
                  by_cases q : sortedS (ds.map strO) = true
                  · rw [q]
                    exact decide_eq_true (sorted_one q so pm.symm)
                  · have q2 : sortedS (ds.map strO) = false := by simpa using q
                    rw [q2]
                    exact decide_eq_false fun z => q (by rw [z]; exact so)
                rw [e3]
                exact k' _ ((s1.trans t1).trans t2)
              · have hall' : (ds.all fun d => nameD d && decide (strO d ∈ rows.map (·.1))) = false := by simpa using hall
                rw [hall'] at k' ⊢
                exact k' _ s1
        · rw [decide_eq_false h5]
          rw [decide_eq_false (by omega : ¬ xs.length ≤ 5), Bool.false_and] at k'
          exact k' _ (Same.refl _)
      · have h2 : ¬ 1 ≤ ds.length := fun q => h1 (decide_eq_true (by rw [r.len]; omega))
        rw [decide_eq_false h2, Bool.false_and, Bool.false_and] at k'
        exact ⟨_, rfl, k' _ (Same.refl _)⟩
theorem scKind : FnScope ["row", "partners"] ["row", "partners"] (defScope sKind) := ⟨rfl, rfl, rfl, by decide +kernel, rfl, by decide +kernel, by decide +kernel⟩
theorem ok_kind {f fP fN fE : Addr} {fd fdP fdN fdE : FuncData} (F : Fun K "_is_kind" "_is_kind" sKind f fd)
    (GP : FnOk P w K mg base CX0 1 fP fdP ["thing"] spPair) (kP : PySem.W.keepIn K (.ref fP) = true) (bP : Binds K fdP ["thing"] []) (gP : mg "is_pair" = some (.ref fP))
    (GN : FnOk P w K mg base CX0 1 fN fdN ["thing"] spName) (kN : PySem.W.keepIn K (.ref fN) = true) (bN : Binds K fdN ["thing"] []) (gN : mg "is_name" = some (.ref fN))
    (GE : FnOk P w K mg base CX0 2 fE fdE ["ends", "partners"] spEnds) (kE : PySem.W.keepIn K (.ref fE) = true) (bE : Binds K fdE ["ends", "partners"] []) (gE : mg "_are_ends" = some (.ref fE)) :
    FnOk P w K mg base CX0 3 f fd ["row", "partners"] spKind := by
  refine F.ok scKind (fun vs H Q E h => ?_) (fun cdv A outer s H vs Q E hr h => ?_)
  · obtain ⟨v, d, p, rows, rfl, _⟩ := h
    rfl
  · obtain ⟨v, d, p, rows, rfl, hd, hp, k⟩ := h
    have hr1 : Room 1 _ := hr.mono (by decide)
    refine ⟨_, pss_one (ps_ret (pe_and (pe_call GP hr1 (by rfl) gP kP bP .nil pass0 (pa_cons (pv 0) pa_nil)) (pe_and (pe_call GN hr1 (by rfl) gN kN bN .nil pass0 (pa_cons (pe_ix ix_tup (pv 0) pe_int (fun _ _ => rfl)) pa_nil))
      (pe_one (pe_call GE hr (by rfl) gE kE bE .nil pass0 (pa_cons (pe_ix ix_tup (pv 0) pe_int (fun _ _ => rfl)) (pa_cons (pv 1) pa_nil))))))), ?_⟩
    refine ⟨_, rfl, v, d, rfl, hd, _, rfl, ?_⟩
    by_cases hpr : pairD d = true
    · rw [hpr]
      cases hd with
      | @tup a xs ds e l r =>
        have h2 : ds.length = 2 := of_decide_eq_true hpr
        obtain ⟨v0, v1, d0, d1, ex, ed, h0, h1⟩ := r.two h2
        subst ex
        subst ed
        · skip
          have kk : ∀ H', Same H H' → Q (.bl (nameD d0 && endsD (rows.map (·.1)) d1)) H' := k
          refine ⟨_, rfl, a, _, _, _, rfl, rfl, (TupAt.sq e), atI_nat (j := 0) rfl, v0, d0, rfl, h0, fun H1 s1 => ⟨_, rfl, ?_⟩⟩
          by_cases hn : nameD d0 = true
          · rw [hn] at kk ⊢
            rw [Bool.true_and] at kk
            refine ⟨_, rfl, a, _, _, _, rfl, rfl, (TupAt.sq (TupAt.same s1 e)), atI_nat (j := 1) rfl, _, rfl, v1, d1, p, rows, rfl, h1.same s1, s1 _ _ hp, fun H2 s2 => kk _ (s1.trans s2)⟩
          · have hn' : nameD d0 = false := by simpa using hn
            rw [hn'] at kk ⊢
            exact kk _ s1
      | _ => cases hpr
    · have hpr' : pairD d = false := by simpa using hpr
      rw [hpr']
      have e : kindD (rows.map (·.1)) d = false := by
        cases d with
        | tuple ds =>
          match ds, hpr' with
          | [], _ => rfl
          | [_], _ => rfl
          | [_, _], h => cases h
          | _ :: _ :: _ :: _, _ => rfl
        | _ => rfl
      have k2 := k H (Same.refl _)
      rw [e] at k2
      exact k2
end
end Toy
set_option Elab.async false
set_option linter.all false
set_option maxRecDepth 100000
set_option maxHeartbeats 4000000
namespace Toy
open PySem PySem.Spec PyProof.Rows L2
/-! ### dict(pairs) -/
theorem keys_putK {κ : Type} [DecidableEq κ] (kvs : List (κ × V)) (k : κ) (v : V) : (putK kvs k v).map (·.1) = addMet (kvs.map (·.1)) k := by
  unfold putK addMet
  by_cases h : (kvs.any fun kv => decide (kv.1 = k)) = true
  · have hm : k ∈ kvs.map (·.1) := by
      obtain ⟨q, hq, e⟩ := List.any_eq_true.mp h
      exact List.mem_map.mpr ⟨q, hq, of_decide_eq_true e⟩
    rw [if_pos h, if_pos hm, List.map_map]
    refine List.map_congr_left fun q _ => ?_
    show (if q.1 = k then (q.1, v) else q).1 = q.1
    split <;> rfl
  · have hm : k ∉ kvs.map (·.1) := fun z => h (by
      obtain ⟨q, hq, e⟩ := List.mem_map.mp z
      exact List.any_eq_true.mpr ⟨q, hq, decide_eq_true e⟩)
    rw [if_neg h, if_neg hm, List.map_append]
    rfl
theorem keys_mergeK : ∀ (more kvs : List (Key × V)), (mergeK kvs more).map (·.1) = (more.map (·.1)).foldl addMet (kvs.map (·.1))
  | [], _ => rfl
  | m :: more, kvs => by
    show (mergeK (putK kvs m.1 m.2) more).map (·.1) = _
    rw [keys_mergeK more, keys_putK]
    rfl
theorem mergeK_nodup : ∀ (more kvs : List (Key × V)), ((kvs ++ more).map (·.1)).Nodup → mergeK kvs more = kvs ++ more
  | [], kvs, _ => by rw [List.append_nil]; rfl
  | m :: more, kvs, h => by
    show mergeK (putK kvs m.1 m.2) more = _
    have hno : valV kvs m.1 = none := by
      cases e : valV kvs m.1 with
      | none => rfl
      | some v =>
        have hin := valV_in e
        rw [List.map_append, List.map_cons, List.nodup_append] at h
        exact absurd rfl (h.2.2 m.1 hin m.1 List.mem_cons_self)
    rw [putK_new m.2 hno, mergeK_nodup more _ (by rw [List.append_assoc]; exact h), List.append_assoc]
    rfl
theorem keys_rows (rows : Rows2) : (rows.map kvOf).map (·.1) = (rows.map (·.1)).map (Sum.inr : Str → Key) := by
  rw [List.map_map, List.map_map]
  rfl
theorem inr_nodup : ∀ xs : List Str, (xs.map (Sum.inr : Str → Key)).Nodup ↔ xs.Nodup
  | [] => ⟨fun _ => List.nodup_nil, fun _ => List.nodup_nil⟩
  | x :: xs => by
    rw [List.map_cons, List.nodup_cons, List.nodup_cons, inr_nodup xs]
    refine and_congr (not_congr ⟨fun h => ?_, fun h => List.mem_map.mpr ⟨x, h, rfl⟩⟩) Iff.rfl
    obtain ⟨y, hy, e⟩ := List.mem_map.mp h
    exact (Sum.inr.inj e) ▸ hy
theorem dict_len (rows : Rows2) : (mergeK [] (rows.map kvOf)).length ≤ rows.length ∧ ((mergeK [] (rows.map kvOf)).length = rows.length ↔ (rows.map (·.1)).Nodup) := by
  have e : (mergeK [] (rows.map kvOf)).length = (met ((rows.map (·.1)).map (Sum.inr : Str → Key))).length := by
    rw [← List.length_map (f := fun kv : Key × V => kv.1), keys_mergeK, keys_rows]
    rfl
  have e2 : ((rows.map (·.1)).map (Sum.inr : Str → Key)).length = rows.length := by rw [List.length_map, List.length_map]
  refine ⟨by rw [e, ← e2]; exact met_le _, ?_⟩
  rw [e, ← inr_nodup, ← met_full, e2]
theorem dict_is {rows : Rows2} (h : (rows.map (·.1)).Nodup) : mergeK [] (rows.map kvOf) = rows.map kvOf :=
  mergeK_nodup _ [] (by rw [List.nil_append, keys_rows]; exact (inr_nodup _).mpr h)
theorem val_at : ∀ {rows : Rows2} {i : Nat} {r : Str × Str}, (rows.map (·.1)).Nodup → rows[i]? = some r → valV (rows.map kvOf) (Sum.inr r.1) = some (.str r.2)
  | [], i, r, _, e => by simp at e
  | q :: rows, 0, r, _, e => by
    have e2 : q = r := Option.some.inj e
    subst e2
    exact valV_pos rfl
  | q :: rows, i + 1, r, h, e => by
    rw [List.map_cons, List.nodup_cons] at h
    have e2 : rows[i]? = some r := e
    have hm : r.1 ∈ rows.map (·.1) := List.mem_map.mpr ⟨r, List.mem_of_getElem? e2, rfl⟩
    rw [List.map_cons, valV_neg (p := kvOf q) (fun z => h.1 (by rw [Sum.inr.inj z]; exact hm))]
    exact val_at h.2 e2
theorem val_str : ∀ {rows : Rows2} {k : Key} {v : V}, valV (rows.map kvOf) k = some v → ∃ y, v = .str y
  | [], _, _, e => by cases e
  | q :: rows, k, v, e => by
    by_cases h : (kvOf q).1 = k
    · rw [List.map_cons, valV_pos h] at e
      exact ⟨q.2, (Option.some.inj e).symm⟩
    · rw [List.map_cons, valV_neg h] at e
      exact val_str e
/-! ### sorts -/
def rowD : PyData → Bool
  | .tuple [a, b] => nameD a && nameD b
  | _ => false
def rowOf : PyData → Str × Str
  | .tuple [a, b] => (strO a, strO b)
  | _ => (Str.empty, Str.empty)
def mutualB (rows : Rows2) : Bool := rows.all fun r => decide (valV (rows.map kvOf) (Sum.inr r.2) = some (.str r.1))
def sortsD : PyData → Bool
  | .list ds => (decide (1 ≤ ds.length) && decide (ds.length ≤ 3)) && (ds.all rowD && (decide ((ds.map rowOf).map (·.1)).Nodup && mutualB (ds.map rowOf)))
  | _ => false
def spSorts : Sp := fun vs H Q _ => ∃ (v : V) (d : PyData), vs = [v] ∧ Dt H v d ∧ ∀ H', Same H H' → Q (.bl (sortsD d)) H'
theorem rowD_two {ds : List PyData} (h : rowD (.tuple ds) = true) : ds.length = 2 := by
  match ds, h with
  | [_, _], _ => rfl
  | [], h => cases h
  | [_], h => cases h
  | _ :: _ :: _ :: _, h => cases h
theorem kindD_two {keys : List Str} {ds : List PyData} (h : kindD keys (.tuple ds) = true) : ds.length = 2 := by
  match ds, h with
  | [_, _], _ => rfl
  | [], h => cases h
  | [_], h => cases h
  | _ :: _ :: _ :: _, h => cases h
theorem rows_of {K : PySem.W.Frag} {H : Hp} : ∀ {xs : List V} {ds : List PyData}, DtAll H xs ds → (∀ d ∈ ds, rowD d = true) → ∃ ps : List Addr, xs = ps.map V.ref ∧ Paired (fun p kv => SqT K H p [kV kv.1, kv.2]) ps ((ds.map rowOf).map kvOf)
  | _, _, .nil, _ => ⟨[], rfl, .nil⟩
  | _, _, .cons (v := v) (d := d) h t, n => by
    obtain ⟨ps, e1, e2⟩ := rows_of (K := K) t fun d hd => n d (List.mem_cons_of_mem _ hd)
    have n0 := n _ List.mem_cons_self
    cases h with
    | @tup a xs ds e l r =>
      obtain ⟨v0, v1, d0, d1, ex, ed, h0, h1⟩ := r.two (rowD_two n0)
      subst ex
      subst ed
      · skip
        have n2 : (nameD d0 && nameD d1) = true := n0
        rw [Bool.and_eq_true] at n2
        obtain ⟨x, rfl⟩ := name_str n2.1
        obtain ⟨y, rfl⟩ := name_str n2.2
        obtain ⟨rfl, _⟩ := dt_str h0
        obtain ⟨rfl, _⟩ := dt_str h1
        exact ⟨a :: ps, by rw [e1]; rfl, .cons ((TupAt.sq e)) e2⟩
    | _ => cases n0
section
variable {P : Program} {w : World} {K : PySem.W.Frag} {mg : Str → Option Value} {base : Heap}
theorem scKinds : FnScope ["kinds", "partners", "row"] ["kinds", "partners"] (defScope sKinds) := ⟨rfl, rfl, rfl, by decide +kernel, rfl, by decide +kernel, by decide +kernel⟩
theorem ok_kinds {f fL fK fU : Addr} {fd fdL fdK fdU : FuncData} (F : Fun K "_are_kinds" "_are_kinds" sKinds f fd) (M : Mods mg)
    (GL : FnOk P w K mg base CX0 1 fL fdL ["thing", "fewest", "most"] spList) (kL : PySem.W.keepIn K (.ref fL) = true) (bL : Binds K fdL ["thing", "fewest", "most"] []) (gL : mg "is_list" = some (.ref fL))
    (GK : FnOk P w K mg base CX0 3 fK fdK ["row", "partners"] spKind) (kK : PySem.W.keepIn K (.ref fK) = true) (bK : Binds K fdK ["row", "partners"] []) (gK : mg "_is_kind" = some (.ref fK))
    (GU : FnOk P w K mg base CX0 1 fU fdU ["things"] (spUnlike K)) (kU : PySem.W.keepIn K (.ref fU) = true) (bU : Binds K fdU ["things"] []) (gU : mg "are_unlike" = some (.ref fU)) :
    FnOk P w K mg base CX0 4 f fd ["kinds", "partners"] spKinds := by
  obtain ⟨tk, hmk⟩ := M.mkd
  refine F.ok scKinds (fun vs H Q E h => ?_) (fun cdv A outer s H vs Q E hr h => ?_)
  · obtain ⟨v, d, p, rows, rfl, _⟩ := h
    rfl
  · obtain ⟨v, d, p, rows, rfl, hd, hp, k⟩ := h
    have hr1 : Room 1 _ := hr.mono (by decide)
    refine ⟨_, pss_cons (ps_if (pt_not (pt_val (pe_call GL hr1 (by rfl) gL kL bL .nil pass0 (pa_cons (pv 0) (pa_cons pe_int (pa_cons (pe_glob (v := .int 4) (by rfl) hmk ⟨_, rfl⟩) pa_nil)))))) (pss_one (ps_ret pe_bl)) pss_nil)
      (pss_cons (ps_if (pt_not (pt_val (pe_callB (cr_all rfl) (by rfl) M.all_ (by decide +kernel) (pa_cons (pe_lc (own := [("row", 2)]) (g := gName 2) (tt := tYes) (te := tCall spKind [] E0 (tCons (tVar 2) (tCons (tVar 1) tNil))) rfl scKinds.nd (pi_list (pv 0)) (blkOk_by (N := ["kinds", "partners", "row"]) (sc := defScope sKinds) (by decide +kernel)) (fun _ _ _ _ _ => pg_name (i := 2) scKinds.nd rfl (Or.inl rfl)) (fun _ _ _ _ _ => pts_nil)
          (fun _ _ _ _ _ => (by exact pe_call GK hr (by rfl) gK kK bK .nil pass0 (pa_cons (pv 2) (pa_cons (pv 1) pa_nil))))) pa_nil)))) (pss_one (ps_ret pe_bl)) pss_nil)
      (pss_one (ps_ret (pe_call GU hr1 (by rfl) gU kU bU .nil pass0 (pa_cons (pe_lc (own := [("row", 2)]) (g := gName 2) (tt := tYes) (te := tOp (rIxT K) (tVar 2) (tC (.int 0))) rfl scKinds.nd (pi_list (pv 0)) (blkOk_by (N := ["kinds", "partners", "row"]) (sc := defScope sKinds) (by decide +kernel)) (fun _ _ _ _ _ => pg_name (i := 2) scKinds.nd rfl (Or.inl rfl)) (fun _ _ _ _ _ => pts_nil)
          (fun _ _ _ _ _ => (by exact pe_ix ix_tup (pv 2) pe_int (fun _ _ => rfl)))) pa_nil))))), ?_⟩
    refine ⟨_, rfl, v, d, 1, 4, rfl, hd, _, rfl, ?_⟩
    by_cases hl : listD 1 4 d = true
    · rw [hl]
      cases hd with
      | @lst a xs ds e l r =>
        have hl2 : (decide ((1 : Int) ≤ (ds.length : Int)) && decide ((ds.length : Int) ≤ 4)) = true := hl
        rw [Bool.and_eq_true, decide_eq_true_eq, decide_eq_true_eq] at hl2
        have k' : ∀ H', Same H H' → Q (.bl ((decide (1 ≤ ds.length) && decide (ds.length ≤ 4)) && ((ds.all (kindD (rows.map (·.1)))) && decide (ds.map name0).Nodup))) H' := k
        rw [decide_eq_true (by omega : 1 ≤ ds.length), decide_eq_true (by omega : ds.length ≤ 4), Bool.true_and, Bool.true_and] at k'
        refine ⟨_, rfl, a, rfl, ⟨_, SqL.of e⟩, fun D hD => ?_⟩
        refine lc_mapW (walk_list (K := K) (a := a) (xs := xs)) (ds.map fun d => V.bl (kindD (rows.map (·.1)) d)) (by rw [List.length_map, r.len]) l hD (fun H1 s1 => SqL.of (s1 _ _ e)) (fun i H x H' h => by rw [h.1]; exact Same.refl _) (fun i y H1 H2 R hi s1 hy hR => ?_) (fun H1 s1 hD1 => ?_)
        · obtain ⟨rfl, hy⟩ := hy
          obtain ⟨di, hdi, hDi⟩ := r.at_ hy
          exact ⟨rfl, _, rfl, _, rfl, y, di, p, rows, rfl, hDi.same s1, s1 _ _ hp, fun H3 s3 => hR _ _ (allB_at ds _ hdi) s3⟩
        · refine ⟨D, ds.map (kindD (rows.map (·.1))), rfl, ?_, _, rfl, ?_⟩
          · rw [List.map_map]
            exact SqL.of hD1
          · rw [List.all_map]
            have eall : (ds.all (id ∘ kindD (rows.map (·.1)))) = ds.all (kindD (rows.map (·.1))) := rfl
            rw [eall]
            by_cases hall : ds.all (kindD (rows.map (·.1))) = true
            · rw [hall] at k' ⊢
              rw [Bool.true_and] at k'
              refine ⟨_, rfl, a, rfl, ⟨_, SqL.of (s1 _ _ e)⟩, fun D2 hD2 => ?_⟩
              refine lc_mapW (walk_list (K := K) (a := a) (xs := xs)) ((ds.map name0).map V.str) (by rw [List.length_map, List.length_map, r.len]) l hD2 (fun H2 s2 => SqL.of (s2 _ _ (s1 _ _ e))) (fun i H x H' h => by rw [h.1]; exact Same.refl _) (fun i y H2 H3 R hi s2 hy hR => ?_) (fun H2 s2 hD3 => ?_)
              · obtain ⟨rfl, hy⟩ := hy
                obtain ⟨di, hdi, hDi⟩ := r.at_ hy
                have hk := List.all_eq_true.mp hall di (List.mem_of_getElem? hdi)
                have s12 := s1.trans s2
                cases hDi with
                | @tup b zs es eb lb rb =>
                  obtain ⟨v0, v1, d0, d1, ex, ed, h0, h1⟩ := rb.two (kindD_two hk)
                  subst ex
                  subst ed
                  · skip
                    have hk2 : (nameD d0 && endsD (rows.map (·.1)) d1) = true := hk
                    rw [Bool.and_eq_true] at hk2
                    obtain ⟨x, rfl⟩ := name_str hk2.1
                    obtain ⟨rfl, _⟩ := dt_str h0
                    refine ⟨rfl, _, rfl, b, _, _, _, rfl, rfl, (TupAt.sq (TupAt.same s12 eb)), atI_nat (j := 0) rfl, hR _ _ ?_ (Same.refl _)⟩
                    rw [List.getElem?_map, List.getElem?_map, hdi]
                    rfl
                | _ => cases hk
              · refine ⟨D2, ds.map name0, rfl, SqL.of hD3, by rw [List.length_map]; omega, ?_⟩
                exact k' _ (s1.trans s2)
            · have hall' : ds.all (kindD (rows.map (·.1))) = false := by simpa using hall
              rw [hall'] at k' ⊢
              exact k' _ s1
      | _ => cases hl
    · have hl' : listD 1 4 d = false := by simpa using hl
      rw [hl']
      have e : kindsD (rows.map (·.1)) d = false := by
        cases d with
        | list ds =>
          have hl2 : (decide ((1 : Int) ≤ (ds.length : Int)) && decide ((ds.length : Int) ≤ 4)) = false := hl'
          have e2 : (decide (1 ≤ ds.length) && decide (ds.length ≤ 4)) = (decide ((1 : Int) ≤ (ds.length : Int)) && decide ((ds.length : Int) ≤ 4)) := by
            congr 1
            · exact decide_eq_decide.mpr (by omega)
            · exact decide_eq_decide.mpr (by omega)
          show ((decide (1 ≤ ds.length) && decide (ds.length ≤ 4)) && _) = false
          rw [e2, hl2, Bool.false_and]
        | _ => rfl
      have k2 := k H (Same.refl _)
      rw [e] at k2
      exact k2
theorem scSorts : FnScope ["sorts", "partners", "row", "sort"] ["sorts"] (defScope sSorts) := ⟨rfl, rfl, rfl, by decide +kernel, rfl, by decide +kernel, by decide +kernel⟩
theorem ok_sorts {f fL fP fN : Addr} {fd fdL fdP fdN : FuncData} (F : Fun K "_are_sorts" "_are_sorts" sSorts f fd) (M : Mods mg)
    (GL : FnOk P w K mg base CX0 1 fL fdL ["thing", "fewest", "most"] spList) (kL : PySem.W.keepIn K (.ref fL) = true) (bL : Binds K fdL ["thing", "fewest", "most"] []) (gL : mg "is_list" = some (.ref fL))
    (GP : FnOk P w K mg base CX0 1 fP fdP ["thing"] spPair) (kP : PySem.W.keepIn K (.ref fP) = true) (bP : Binds K fdP ["thing"] []) (gP : mg "is_pair" = some (.ref fP))
    (GN : FnOk P w K mg base CX0 1 fN fdN ["thing"] spName) (kN : PySem.W.keepIn K (.ref fN) = true) (bN : Binds K fdN ["thing"] []) (gN : mg "is_name" = some (.ref fN)) :
    FnOk P w K mg base CX0 2 f fd ["sorts"] spSorts := by
  obtain ⟨tk, hms⟩ := M.ms
  refine F.ok scSorts (fun vs H Q E h => ?_) (fun cdv A outer s H vs Q E hr h => ?_)
  · obtain ⟨v, d, rfl, _⟩ := h
    rfl
  · obtain ⟨v, d, rfl, hd, k⟩ := h
    refine ⟨_, pss_cons (ps_if (pt_not (pt_val (pe_call GL hr (by rfl) gL kL bL .nil pass0 (pa_cons (pv 0) (pa_cons pe_int (pa_cons (pe_glob (v := .int 3) (by rfl) hms ⟨_, rfl⟩) pa_nil)))))) (pss_one (ps_ret pe_bl)) pss_nil)
      (pss_cons (ps_if (pt_not (pt_val (pe_callB (cr_all rfl) (by rfl) M.all_ (by decide +kernel) (pa_cons (pe_lc (own := [("row", 2)]) (g := gName 2) (tt := tYes)
          (te := tAndV (tCall spPair [] E0 (tCons (tVar 2) tNil)) (tAndV (tCall spName [] E0 (tCons (tOp (rIxT K) (tVar 2) (tC (.int 0))) tNil)) (tCall spName [] E0 (tCons (tOp (rIxT K) (tVar 2) (tC (.int 1))) tNil))))
          rfl scSorts.nd (pi_list (pv 0)) (blkOk_by (N := ["sorts", "partners", "row", "sort"]) (sc := defScope sSorts) (by decide +kernel)) (fun _ _ _ _ _ => pg_name (i := 2) scSorts.nd rfl (Or.inl rfl)) (fun _ _ _ _ _ => pts_nil)
          (fun _ _ _ _ _ => (by exact pe_and (pe_call GP hr (by rfl) gP kP bP .nil pass0 (pa_cons (pv 2) pa_nil)) (pe_and (pe_call GN hr (by rfl) gN kN bN .nil pass0 (pa_cons (pe_ix ix_tup (pv 2) pe_int (fun _ _ => rfl)) pa_nil)) (pe_one (pe_call GN hr (by rfl) gN kN bN .nil pass0 (pa_cons (pe_ix ix_tup (pv 2) pe_int (fun _ _ => rfl)) pa_nil))))))) pa_nil)))) (pss_one (ps_ret pe_bl)) pss_nil)
      (pss_cons (ps_set (i := 1) scSorts.nd rfl (Or.inr rfl) (pe_callTy (call_dictP rfl) (by rfl) M.dict_ (by decide +kernel) (pa_cons (pv 0) pa_nil)))
      (pss_cons (ps_if (pt_cmpR op_lt (pe_callB call_lenD (by rfl) M.len PySem.boot_len (pa_cons (pv 1) pa_nil)) (pe_callB call_len_seq (by rfl) M.len PySem.boot_len (pa_cons (pv 0) pa_nil)) (nomark _)) (pss_one (ps_ret pe_bl)) pss_nil)
      (pss_one (ps_ret (pe_callB (cr_all rfl) (by rfl) M.all_ (by decide +kernel) (pa_cons (pe_lock (pe_lc (own := [("sort", 3)]) (g := gName 3) (tt := tYes) (te := tOp rEq (tDGet1 (tVar 1) (tDGet (tVar 1) (tVar 3))) (tVar 3))
          rfl scSorts.nd (pi_keys (pv 1)) (blkOk_by (N := ["sorts", "partners", "row", "sort"]) (sc := defScope sSorts) (by decide +kernel)) (fun _ _ _ _ _ => pg_name (i := 3) scSorts.nd rfl (Or.inl rfl)) (fun _ _ _ _ _ => pts_nil)
          (fun _ _ _ _ _ => (by exact pe_cmpR op_eq (pe_dget1 (hu_of hr) (pv 1) (pe_dget (hu_of hr) (pv 1) (pv 3) (fun _ _ => rfl)) ⟨rfl, rfl, rfl, rfl⟩) (pv 3) (nomark _))))) pa_nil))))))), ?_⟩
    refine ⟨_, rfl, v, d, 1, 3, rfl, hd, _, rfl, ?_⟩
    by_cases hl : listD 1 3 d = true
    · rw [hl]
      cases hd with
      | @lst a xs ds e l r =>
        have hl2 : (decide ((1 : Int) ≤ (ds.length : Int)) && decide ((ds.length : Int) ≤ 3)) = true := hl
        rw [Bool.and_eq_true, decide_eq_true_eq, decide_eq_true_eq] at hl2
        have k' : ∀ H', Same H H' → Q (.bl ((decide (1 ≤ ds.length) && decide (ds.length ≤ 3)) && (ds.all rowD && (decide ((ds.map rowOf).map (·.1)).Nodup && mutualB (ds.map rowOf))))) H' := k
        rw [decide_eq_true (by omega : 1 ≤ ds.length), decide_eq_true (by omega : ds.length ≤ 3), Bool.true_and, Bool.true_and] at k'
        refine ⟨_, rfl, a, rfl, ⟨_, SqL.of e⟩, fun D hD => ?_⟩
        refine lc_mapW (walk_list (K := K) (a := a) (xs := xs)) (ds.map fun d => V.bl (rowD d)) (by rw [List.length_map, r.len]) l hD (fun H1 s1 => SqL.of (s1 _ _ e)) (fun i H x H' h => by rw [h.1]; exact Same.refl _) (fun i y H1 H2 R hi s1 hy hR => ?_) (fun H1 s1 hD1 => ?_)
        · obtain ⟨rfl, hy⟩ := hy
          obtain ⟨di, hdi, hDi⟩ := r.at_ hy
          have hR' := fun H4 s4 => hR _ H4 (allB_at ds rowD hdi) s4
          refine ⟨rfl, _, rfl, y, di, rfl, hDi.same s1, _, rfl, ?_⟩
          by_cases hpr : pairD di = true
          · rw [hpr]
            cases hDi with
            | @tup b zs es eb lb rb =>
              have h2 : es.length = 2 := of_decide_eq_true hpr
              obtain ⟨v0, v1, d0, d1, ex, ed, h0, h1⟩ := rb.two h2
              subst ex
              subst ed
              · skip
                have kk : ∀ H4, Same H2 H4 → R (.bl (nameD d0 && nameD d1)) H4 := hR'
                refine ⟨_, rfl, b, _, _, _, rfl, rfl, (TupAt.sq (TupAt.same s1 eb)), atI_nat (j := 0) rfl, v0, d0, rfl, h0.same s1, fun H3 s3 => ⟨_, rfl, ?_⟩⟩
                by_cases hn : nameD d0 = true
                · rw [hn] at kk ⊢
                  rw [Bool.true_and] at kk
                  exact ⟨_, rfl, b, _, _, _, rfl, rfl, (TupAt.sq (TupAt.same s3 (TupAt.same s1 eb))), atI_nat (j := 1) rfl, v1, d1, rfl, h1.same (s1.trans s3), fun H4 s4 => kk _ (s3.trans s4)⟩
                · have hn' : nameD d0 = false := by simpa using hn
                  rw [hn'] at kk ⊢
                  exact kk _ s3
            | _ => cases hpr
          · have hpr' : pairD di = false := by simpa using hpr
            rw [hpr']
            have e2 : rowD di = false := by
              cases di with
              | tuple es =>
                match es, hpr' with
                | [], _ => rfl
                | [_], _ => rfl
                | [_, _], h => cases h
                | _ :: _ :: _ :: _, _ => rfl
              | _ => rfl
            have k2 := hR' H2 (Same.refl _)
            rw [e2] at k2
            exact k2
        · refine ⟨D, ds.map rowD, rfl, ?_, _, rfl, ?_⟩
          · rw [List.map_map]
            exact SqL.of hD1
          · rw [List.all_map]
            have eall : (ds.all (id ∘ rowD)) = ds.all rowD := rfl
            rw [eall]
            by_cases hall : ds.all rowD = true
            · rw [hall] at k' ⊢
              rw [Bool.true_and] at k'
              obtain ⟨ps, exs, pr⟩ := rows_of (K := K) (r.same s1) (fun d hdm => List.all_eq_true.mp hall d hdm)
              have e1 := s1 _ _ e
              rw [exs] at e1
              refine ⟨_, rfl, a, ps, _, rfl, SqL.of e1, pr, fun dp hdp => ?_⟩
              have t1 := same_new (o := .dK (mergeK [] ((ds.map rowOf).map kvOf))) hdp
              have hdp2 : upd H1 dp (.dK (mergeK [] ((ds.map rowOf).map kvOf))) dp = some (.dK (mergeK [] ((ds.map rowOf).map kvOf))) := upd_same
              generalize upd H1 dp (.dK (mergeK [] ((ds.map rowOf).map kvOf))) = H2 at t1 hdp2 ⊢
              refine ⟨_, rfl, dp, _, rfl, hdp2, _, rfl, a, _, rfl, .inl (SqL.of (t1 _ _ e1)), _, _, rfl, rfl, _, rfl, ite2 (fun hlt => ?_) (fun hlt => ?_)⟩
              · have lt1 := of_decide_eq_true hlt
                have ln := dict_len (ds.map rowOf)
                rw [List.length_map] at ln
                rw [List.length_map] at lt1
                have psl : ps.length = ds.length := by
                  have q := r.len
                  rw [exs, List.length_map] at q
                  exact q
                have nn : ¬ ((ds.map rowOf).map (·.1)).Nodup := fun z => by
                  have q := ln.2.mpr z
                  omega
                have k2 := k' _ (s1.trans t1)
                rw [decide_eq_false nn, Bool.false_and] at k2
                exact k2
              · have ln := dict_len (ds.map rowOf)
                rw [List.length_map] at ln
                have psl : ps.length = ds.length := by
                  have q := r.len
                  rw [exs, List.length_map] at q
                  exact q
                have nd : ((ds.map rowOf).map (·.1)).Nodup := by
                  refine ln.2.mp ?_
                  have q : ¬ (((mergeK [] ((ds.map rowOf).map kvOf)).length : Int) < (ps.map V.ref).length) := fun z => hlt (decide_eq_true z)
                  rw [List.length_map] at q
                  omega
                rw [decide_eq_true nd, Bool.true_and] at k'
                rw [dict_is nd] at hdp2
                generalize hrows : ds.map rowOf = rows at k' hdp2 nd
                have ndp : ∀ b o, H b = some o → b ≠ dp := fun b o eb => ne_of_none (s1 b o eb) hdp
                refine ⟨dp, _, hdp2, trivial, fun od => ?_⟩
                have fz : upd H2 dp (.frz od (.dK (rows.map kvOf))) dp = some (.frz od (.dK (rows.map kvOf))) := upd_same
                have t3 : ∀ b o, H2 b = some o → b ≠ dp → upd H2 dp (.frz od (.dK (rows.map kvOf))) b = some o := fun b o eb nb => (upd_ne nb).trans eb
                generalize upd H2 dp (.frz od (.dK (rows.map kvOf))) = H3 at fz t3 ⊢
                refine ⟨_, rfl, dp, od, rfl, .inl ⟨_, fz, fun D2 hD2 => ?_⟩⟩
                refine lc_mapW (walk_keys (d := dp) (o := od) (kvs := rows.map kvOf)) (rows.map fun r => V.bl (decide (valV (rows.map kvOf) (Sum.inr r.2) = some (.str r.1)))) (by rw [List.length_map, List.length_map]) (by rw [List.length_map, ← hrows, List.length_map]; omega) hD2 (fun H4 s4 => s4 _ _ fz) (fun i H x H' h => by rw [h.1]; exact Same.refl _) (fun i y H4 H5 R hi s4 hy hR => ?_) (fun H4 s4 hD4 => ?_)
                · obtain ⟨rfl, kk, vv, hkv, rfl⟩ := hy
                  rw [List.getElem?_map] at hkv
                  cases hri : rows[i]? with
                  | none =>
                    rw [hri] at hkv
                    cases hkv
                  | some rr =>
                    rw [hri] at hkv
                    cases hkv
                    have v1 := val_at nd hri
                    have rd : Rd H5 dp (.dK (rows.map kvOf)) := .inr ⟨od, s4 _ _ fz⟩
                    have g1 := dget_rows rd rr.1
                    rw [v1] at g1
                    refine ⟨rfl, _, rfl, dp, rfl, .inl ⟨_, rd⟩, _, rfl, _, rfl, dp, _, rfl, g1, _, dget_rows rd rr.2, _, rfl, ?_, ?_⟩
                    · cases ho : valV (rows.map kvOf) (Sum.inr rr.2) with
                      | none => rfl
                      | some z =>
                        obtain ⟨y, rfl⟩ := val_str ho
                        rfl
                    · have e5 : decide ((valV (rows.map kvOf) (Sum.inr rr.2)).getD .non = kV (kvOf rr).1) = decide (valV (rows.map kvOf) (Sum.inr rr.2) = some (.str rr.1)) := by
                        cases ho : valV (rows.map kvOf) (Sum.inr rr.2) with
                        | none => exact (decide_eq_false (by intro z; cases z)).trans (decide_eq_false (by intro z; cases z)).symm
                        | some z =>
                          show decide (z = V.str rr.1) = _
                          by_cases q : z = V.str rr.1
                          · rw [decide_eq_true q, decide_eq_true (by rw [q])]
                          · rw [decide_eq_false q, decide_eq_false fun u => q (Option.some.inj u)]
                      have hR' := hR (.bl (decide (valV (rows.map kvOf) (Sum.inr rr.2) = some (.str rr.1)))) H5 (allB_at rows _ hri) (Same.refl _)
                      rw [← e5] at hR'
                      exact hR'
                · refine ⟨s4 _ _ fz, D2, rows.map fun r => (decide (valV (rows.map kvOf) (Sum.inr r.2) = some (.str r.1))), rfl, ?_, ?_⟩
                  · have nD : D2 ≠ dp := fun z => by
                      rw [z, fz] at hD2
                      cases hD2
                    rw [List.map_map]
                    exact SqL.of ((upd_ne nD).trans hD4)
                  · rw [List.all_map]
                    refine k' _ fun b o eb => ?_
                    have nb := ndp b o eb
                    exact (upd_ne nb).trans (s4 _ _ (t3 _ _ (t1 _ _ (s1 _ _ eb)) nb))
            · have hall' : ds.all rowD = false := by simpa using hall
              rw [hall'] at k' ⊢
              exact k' _ s1
      | _ => cases hl
    · have hl' : listD 1 3 d = false := by simpa using hl
      rw [hl']
      have e : sortsD d = false := by
        cases d with
        | list ds =>
          have hl2 : (decide ((1 : Int) ≤ (ds.length : Int)) && decide ((ds.length : Int) ≤ 3)) = false := hl'
          have e2 : (decide (1 ≤ ds.length) && decide (ds.length ≤ 3)) = (decide ((1 : Int) ≤ (ds.length : Int)) && decide ((ds.length : Int) ≤ 3)) := by
            congr 1
            · exact decide_eq_decide.mpr (by omega)
            · exact decide_eq_decide.mpr (by omega)
          show ((decide (1 ≤ ds.length) && decide (ds.length ≤ 3)) && _) = false
          rw [e2, hl2, Bool.false_and]
        | _ => rfl
      have k2 := k H (Same.refl _)
      rw [e] at k2
      exact k2
end
end Toy
set_option Elab.async false
set_option linter.all false
set_option maxRecDepth 100000
set_option maxHeartbeats 2000000
namespace Toy
open PySem PySem.Spec PyProof.Rows L2
/-- the promise of «self.f = v» as an exception's __init__ -/
def spExI (C : Addr) (f : Str) : Sp := fun vs H Q _ => ∃ (a : Addr) (v : V), vs = [.ref a, v] ∧ H a = some (exo a C none) ∧ ∀ dx, H dx = none → dx ≠ a → Q .non (upd (upd H dx (exd dx [(f, v)])) a (exo a C (some dx)))
theorem ok_exinit {P : Program} {w : World} {K : PySem.W.Frag} {mg : Str → Option Value} {base : Heap} {st : Stmt} {f q : Str} {fI C : Addr} {fd : FuncData} {p1 p2 p3 p4 : Pos} (hbody : defBody st = [.Assign [.Attribute (.Name "self" p1) f p2] (.Name f p3) p4])
    (S : FnScope ["self", f] ["self", f] (defScope st)) (v0 : (defScope st).names.lookup ("self" : Str) = some .local) (v1 : (defScope st).names.lookup f = some .local) (hf : (f == ("__debug__" : Str)) = false) (hf2 : (f == ("__classdict__" : Str)) = false)
    (F : Fun K "__init__" q st fI fd) (T : OexC K C) (hno : PySem.W.findIn K (.ref C) f = some none) : FnOk P w K mg base CX0 1 fI fd ["self", f] (spExI C f) := by
  refine F.ok S (fun vs H Q E h => ?_) (fun cdv A outer s H vs Q E hr h => ?_)
  · obtain ⟨a, v, rfl, _⟩ := h
    rfl
  · obtain ⟨a, v, rfl, ha, k⟩ := h
    rw [hbody]
    refine ⟨_, pss_one (ps_ost (pv 0 rfl (Or.inl v0)) (pv 1 rfl (Or.inl v1) hf hf2)), ?_⟩
    exact ⟨_, rfl, _, rfl, a, C, rfl, T, hno, .inl ⟨ha, fun dx n ne => k dx n ne⟩⟩
end Toy
set_option Elab.async false
set_option linter.all false
set_option maxRecDepth 100000
set_option maxHeartbeats 4000000
namespace L2
open PySem PySem.Spec PyProof.Rows Toy
/-- C(e, ..) where what its __init__ raises is wished for at the caller's slots -/
def tMakeS (C : Addr) (sp : Sp) (E : L2.St → XK) (t : TA) : TE := fun σ H Q => t σ H fun vs H1 => ∀ x dx, H1 x = none → H1 dx = none → dx ≠ x → sp (.ref x :: vs) (upd (upd H1 dx (.own x)) x (.ins C dx [])) (fun v H2 => v = .non ∧ Q (.ref x) H2) (E σ)
section
variable {X : Cx} {CXq : CXT} {k : Nat} {f C : Addr} {fd : FuncData} {ps : List Str} {sp : Sp} {E : L2.St → XK} {x : Str} {p pos : Pos} {e : Expr} {es : List Expr} {t : TA}
theorem pe_makeS (M : Mk X.K C f) (F : FnOk X.prog X.w X.K X.mg X.base CXq k f fd ps sp) (hr : Room (k + 1) X.A) (hg : Gl X x) (hm : X.mg x = some (.ref C)) (hb : Binds X.K fd ps []) (hx : ∀ σ, PassesAt CXq X σ (E σ)) (ha : PA X (e :: es) t)
    (hdb : (x == ("__debug__" : Str)) = false := by decide) (he : starEach (e :: es) X.env = (false, eval e X.env) :: starEach es X.env := by rfl) (hpl : (backTo pos (starEach es X.env)).any (·.1) = false := by rfl) :
    PE X (.Call (.Name x p) (e :: es) [] pos) (tMakeS C sp E t) := by
  refine ⟨fun pins s σ H Q I h => ?_⟩
  refine wpAny_Call_Name_kw (ld_glob I hg hm ?_ hdb)
  refine PySem.W.callWith_K (h₀ := X.base) I.ok.mod.kin M.kp (thn (ha.run pos pins s σ H _ I h) fun us s1 hh => ?_) he hpl
  obtain ⟨vs, H1, I1, r, q⟩ := hh
  refine ⟨I1.kIn, ?_⟩
  have hq := q (s1.heap.objs.size + 1) s1.heap.objs.size (I1.hok.fresh (Nat.le_succ _)) (I1.hok.fresh (Nat.le_refl _)) (Nat.ne_of_lt (Nat.lt_succ_self _))
  have I2 := Inv.made (C := C) I1
  have r2 : Vals (V.ref (s1.heap.objs.size + 1) :: vs) (Value.ref (s1.heap.objs.size + 1) :: us) := .cons rfl r
  have len2 : (Value.ref (s1.heap.objs.size + 1) :: us ++ []).length = ps.length := by
    rw [List.append_nil, ← r2.length]
    exact F.len _ _ _ _ hq
  have bnd := hb _ (Value.ref (s1.heap.objs.size + 1) :: us) I2.kIn len2
  rw [List.append_nil] at bnd
  show wpAny _ _ (call (.ref C) us) _ _ _
  refine wpAny_call (make_map (f := f) I1.kIn M.makes M.init (beq_iff_eq.mp M.fn) (codeAny_mono (F.run _ X.stack _ _ _ _ _ _ (E σ) (hr.make C us []) (I2.env0.make C us []) bnd r2 hq) fun r s' hq' => ?_))
  match r, hq' with
  | .error e, hq' => exact hx σ pins _ _ e s' I2 hq'
  | .ok .next, hq' => exact hq'.elim
  | .ok .brk, hq' => exact hq'.elim
  | .ok .cont, hq' => exact hq'.elim
  | .ok (.ret u), hq' =>
    obtain ⟨v, H', I3, rv, ev, q3⟩ := I2.after hq'
    subst ev
    exact ⟨rv, V.ref (s1.heap.objs.size + 1), H', I3, rfl, q3⟩
end
end L2
namespace Toy
open PySem PySem.Spec PyProof.Rows L2
/-! ### the depth of data -/
theorem depth_all {n : Nat} : ∀ {ds : List PyData}, (∀ d ∈ ds, PyData.depth d ≤ n) → PyData.depthAll ds ≤ n
  | [], _ => Nat.zero_le _
  | d :: ds, h => by
    show max (PyData.depth d) (PyData.depthAll ds) ≤ n
    have h1 := h d List.mem_cons_self
    have h2 := depth_all fun e he => h e (List.mem_cons_of_mem _ he)
    omega
theorem name_depth {d : PyData} (h : nameD d = true) : PyData.depth d = 0 ∧ noDict d = true := by
  obtain ⟨x, rfl⟩ := name_str h
  exact ⟨rfl, rfl⟩
theorem noDicts_all : ∀ {ds : List PyData}, (∀ d ∈ ds, noDict d = true) → noDicts ds = true
  | [], _ => rfl
  | d :: ds, h => by
    show (noDict d && noDicts ds) = true
    rw [h d List.mem_cons_self, noDicts_all fun e he => h e (List.mem_cons_of_mem _ he)]
    rfl
theorem row_depth {d : PyData} (h : rowD d = true) : PyData.depth d ≤ 1 ∧ noDict d = true := by
  cases d with
  | tuple ds =>
    match ds, h with
    | [a, b], h =>
      have h2 : (nameD a && nameD b) = true := h
      rw [Bool.and_eq_true] at h2
      obtain ⟨x, rfl⟩ := name_str h2.1
      obtain ⟨y, rfl⟩ := name_str h2.2
      exact ⟨by show max 0 (max 0 0) + 1 ≤ 1; decide, rfl⟩
  | _ => cases h
theorem ends_depth {keys : List Str} {d : PyData} (h : endsD keys d = true) : PyData.depth d ≤ 1 ∧ noDict d = true := by
  cases d with
  | tuple ds =>
    have h2 : ((decide (1 ≤ ds.length) && decide (ds.length ≤ 5)) && ((ds.all fun d => nameD d && decide (strO d ∈ keys)) && sortedS (ds.map strO))) = true := h
    rw [Bool.and_eq_true, Bool.and_eq_true (ds.all _), List.all_eq_true] at h2
    have hn : ∀ d ∈ ds, nameD d = true := fun d hd => by
      have q := h2.2.1 d hd
      rw [Bool.and_eq_true] at q
      exact q.1
    have q1 := depth_all (n := 0) fun d hd => Nat.le_of_eq (name_depth (hn d hd)).1
    exact ⟨by show PyData.depthAll ds + 1 ≤ 1; omega, noDicts_all fun d hd => (name_depth (hn d hd)).2⟩
  | _ => cases h
theorem kind_depth {keys : List Str} {d : PyData} (h : kindD keys d = true) : PyData.depth d ≤ 2 ∧ noDict d = true := by
  cases d with
  | tuple ds =>
    match ds, h with
    | [n, e], h =>
      have h2 : (nameD n && endsD keys e) = true := h
      rw [Bool.and_eq_true] at h2
      have q1 := name_depth h2.1
      have q2 := ends_depth h2.2
      refine ⟨?_, noDicts_all fun d hd => ?_⟩
      · show max (PyData.depth n) (max (PyData.depth e) 0) + 1 ≤ 2
        omega
      · have hd2 : d = n ∨ d = e := by simpa using hd
        rcases hd2 with rfl | rfl
        · exact q1.2
        · exact q2.2
  | _ => cases h
/-- a list of plain data of little depth -/
structure Flat (ds : List PyData) : Prop where
  nd : noDicts ds = true
  dep : PyData.depthAll ds ≤ 8
theorem Flat.shape {H : Hp} {xs : List V} {ds : List PyData} (f : Flat ds) (r : DtAll H xs ds) : SeqAt.shaped (.list ds) = true := by
  unfold SeqAt.shaped
  rw [Bool.and_eq_true]
  have d := f.dep
  exact ⟨r.can f.nd, decide_eq_true (by show PyData.depthAll ds + 1 ≤ 64; omega)⟩
theorem sorts_flat {ds : List PyData} (h : sortsD (.list ds) = true) : Flat ds := by
  have h2 : ((decide (1 ≤ ds.length) && decide (ds.length ≤ 3)) && (ds.all rowD && (decide ((ds.map rowOf).map (·.1)).Nodup && mutualB (ds.map rowOf)))) = true := h
  rw [Bool.and_eq_true, Bool.and_eq_true (ds.all _), List.all_eq_true] at h2
  exact ⟨noDicts_all fun d hd => (row_depth (h2.2.1 d hd)).2, depth_all fun d hd => Nat.le_trans (row_depth (h2.2.1 d hd)).1 (by decide)⟩
theorem kinds_flat {keys : List Str} {ds : List PyData} (h : kindsD keys (.list ds) = true) : Flat ds := by
  have h2 : ((decide (1 ≤ ds.length) && decide (ds.length ≤ 4)) && ((ds.all (kindD keys)) && decide (ds.map name0).Nodup)) = true := h
  rw [Bool.and_eq_true, Bool.and_eq_true (ds.all _), List.all_eq_true] at h2
  exact ⟨noDicts_all fun d hd => (kind_depth (h2.2.1 d hd)).2, depth_all fun d hd => Nat.le_trans (kind_depth (h2.2.1 d hd)).1 (by decide)⟩
/-! ### stocks -/
theorem sk_ : ¬ (("sorts" : Str) = "kinds") := by decide +kernel
def sf (l m : Addr) : List (Str × V) := putF "kinds" (.ref m) (putF "sorts" (.ref l) [])
theorem sf_sorts (l m : Addr) : (sf l m).lookup ("sorts" : Str) = some (.ref l) := by
  unfold sf
  rw [lookup_putF, if_neg sk_, lookup_putF, if_pos rfl]
theorem sf_kinds (l m : Addr) : (sf l m).lookup ("kinds" : Str) = some (.ref m) := by
  unfold sf
  rw [lookup_putF, if_pos rfl]
/-- a stock at a with these sorts and kinds -/
structure StkAt (C : Addr) (H : Hp) (a : Addr) (ss ks : List PyData) : Prop where
  ob : ∃ dx l m, H a = some (.ins C dx (sf l m)) ∧ Dt H (.ref l) (.list ss) ∧ Dt H (.ref m) (.list ks)
  f1 : Flat ss
  f2 : Flat ks
theorem StkAt.same {C : Addr} {H H' : Hp} {a : Addr} {ss ks : List PyData} (x : StkAt C H a ss ks) (s : Same H H') : StkAt C H' a ss ks := by
  obtain ⟨⟨dx, l, m, e, h1, h2⟩, f1, f2⟩ := x
  exact ⟨⟨dx, l, m, s _ _ e, h1.same s, h2.same s⟩, f1, f2⟩
def keysD : PyData → List Str
  | .list ds => (ds.map rowOf).map (·.1)
  | _ => []
def listO : PyData → List PyData
  | .list ds => ds
  | _ => []
/-- its two lists are new, and hold what the handed ones held -/
def StkNew (C : Addr) (H H' : Hp) (self : Addr) (sv kv : V) : Prop := ∃ (dx l m a b : Addr) (xs ys : List V), H' self = some (.ins C dx (sf l m)) ∧ H' l = some (.lst xs) ∧ H' m = some (.lst ys) ∧ H l = none ∧ H m = none ∧ sv = .ref a ∧ kv = .ref b ∧ H a = some (.lst xs) ∧ H b = some (.lst ys)
/-- the stock made of these, or NoStock (CN) of the first part that isn't so -/
def spInit (C CN : Addr) : Sp := fun vs H Q E => ∃ (self dx : Addr) (sv kv : V) (sd kd : PyData), vs = [.ref self, sv, kv] ∧ H self = some (.ins C dx []) ∧ Dt H sv sd ∧ Dt H kv kd ∧
  (sortsD sd = false → ∀ H' d, H d = none → Same H H' → H' d = some (.xd [("part", .str "sorts")]) → E (.ref CN) (some d) H') ∧
  (sortsD sd = true → kindsD (keysD sd) kd = false → ∀ H' d, H d = none → Same H H' → H' d = some (.xd [("part", .str "kinds")]) → E (.ref CN) (some d) H') ∧
  (sortsD sd = true → kindsD (keysD sd) kd = true → ∀ H', StkAt C H' self (listO sd) (listO kd) → StkNew C H H' self sv kv → Off self H H' → Q .non H')
structure StkC (K : PySem.W.Frag) (mg : Str → Option Value) (C CN fX : Addr) : Prop where
  cl : Cls K C
  nS : NoAttr K C "sorts"
  nK : NoAttr K C "kinds"
  mgC : mg "Stock" = some (.ref C)
  ca : PySem.W.findIn K (.ref C) "__class__" = some (some (.builtin "object.__class__"))
  cg : PySem.W.specialIn K (.builtin "object.__class__") "__get__" = some (some (.builtin "getset_descriptor.__get__"))
  ct : PySem.W.takesIn K (.builtin "object.__class__") = some true
  cm : PySem.W.mroIn K C (.type "object") = some true
  kC : PySem.W.kitOne K (.ref C) (.ref C) = some true
  ox : OexC K CN
  noP : PySem.W.findIn K (.ref CN) "part" = some none
  ini : PySem.W.findIn K (.ref CN) "__init__" = some (some (.ref fX))
  fun_ : PySem.W.typeIn K (.ref fX) = some (.type "function")
  mgN : mg "NoStock" = some (.ref CN)
section
variable {P : Program} {w : World} {K : PySem.W.Frag} {mg : Str → Option Value} {base : Heap}
theorem scInit : FnScope ["self", "sorts", "kinds"] ["self", "sorts", "kinds"] (defScope sInit) := ⟨rfl, rfl, rfl, by decide +kernel, rfl, by decide +kernel, by decide +kernel⟩
theorem raise_same {H : Hp} {C a d dx : Addr} {fs : List (Str × V)} (na : H a = none) (nd : upd H a (exo a C none) d = none) (ne : d ≠ a) :
    H d = none ∧ Same H (upd (del (upd (upd (upd H a (exo a C none)) d (exd d fs)) a (exo a C (some d))) a) d (.xd fs)) := by
  rw [upd_ne ne] at nd
  refine ⟨nd, fun b o e => ?_⟩
  have n1 := ne_of_none e na
  have n2 := ne_of_none e nd
  rw [upd_ne n2, del_ne n1, upd_ne n1, upd_ne n2, upd_ne n1]
  exact e
theorem ok_init {f fS fK fX C CN : Addr} {fd fdS fdK fdX : FuncData} (F : Fun K "__init__" "Stock.__init__" sInit f fd) (M : Mods mg) (T : StkC K mg C CN fX)
    (GS : FnOk P w K mg base CX0 2 fS fdS ["sorts"] spSorts) (kS : PySem.W.keepIn K (.ref fS) = true) (bS : Binds K fdS ["sorts"] []) (gS : mg "_are_sorts" = some (.ref fS))
    (GK : FnOk P w K mg base CX0 4 fK fdK ["kinds", "partners"] spKinds) (kK : PySem.W.keepIn K (.ref fK) = true) (bK : Binds K fdK ["kinds", "partners"] []) (gK : mg "_are_kinds" = some (.ref fK))
    (GX : FnOk P w K mg base CX0 1 fX fdX ["self", "part"] (spExI CN "part")) (bX : Binds K fdX ["self", "part"] []) :
    FnOk P w K mg base (L2.CX P w) 5 f fd ["self", "sorts", "kinds"] (spInit C CN) := by
  refine F.okX scInit (fun vs H Q E h => ?_) (fun cdv A outer s H vs Q E hr h => ?_)
  · obtain ⟨self, dx, sv, kv, sd, kd, rfl, _⟩ := h
    rfl
  · obtain ⟨self, dx, sv, kv, sd, kd, rfl, hself, hs, hk, no1, no2, yes⟩ := h
    have hr2 : Room 2 _ := hr.mono (by decide)
    refine ⟨_, pss_cons (ps_if (pt_not (pt_val (pe_call GS hr2 (by rfl) gS kS bS .nil pass0 (pa_cons (pv 1) pa_nil)))) (pss_one (ps_raise rfl (takes_of rfl rfl rfl rfl) (pmk_oex T.ox T.ini T.fun_ GX hr2 bX .nil pass0 (by rfl) T.mgN (pa_cons pe_str pa_nil)))) pss_nil)
      (pss_cons (ps_if (pt_not (pt_val (pe_call GK hr (by rfl) gK kK bK .nil pass0 (pa_cons (pv 2) (pa_cons (pe_callTy (call_dictP rfl) (by rfl) M.dict_ (by decide +kernel) (pa_cons (pv 1) pa_nil)) pa_nil))))) (pss_one (ps_raise rfl (takes_of rfl rfl rfl rfl) (pmk_oex T.ox T.ini T.fun_ GX hr2 bX .nil pass0 (by rfl) T.mgN (pa_cons pe_str pa_nil)))) pss_nil)
      (pss_cons (ps_fld (pv 0) (pe_callTy call_list_of (by rfl) M.lst_ (by decide +kernel) (pa_cons (pv 1) pa_nil)) rfl)
      (pss_one (ps_fld (pv 0) (pe_callTy call_list_of (by rfl) M.lst_ (by decide +kernel) (pa_cons (pv 2) pa_nil)) rfl)))), ?_⟩
    refine ⟨_, rfl, sv, sd, rfl, hs, fun H1 s1 => ⟨_, rfl, ?_⟩⟩
    by_cases h1 : sortsD sd = true
    · rw [h1]
      have hs1 := hs.same s1
      cases hs1 with
      | @lst a xs ds e l r =>
        have h1' : ((decide (1 ≤ ds.length) && decide (ds.length ≤ 3)) && (ds.all rowD && (decide ((ds.map rowOf).map (·.1)).Nodup && mutualB (ds.map rowOf)))) = true := h1
        rw [Bool.and_eq_true, Bool.and_eq_true (ds.all _), Bool.and_eq_true (decide ((ds.map rowOf).map (·.1)).Nodup), List.all_eq_true, decide_eq_true_eq] at h1'
        obtain ⟨ps, exs, pr⟩ := rows_of (K := K) r h1'.2.1
        subst exs
        refine ⟨_, rfl, _, rfl, a, ps, _, rfl, SqL.of e, pr, fun dp hdp => ?_⟩
        rw [dict_is h1'.2.2.1]
        have t1 := same_new (o := .dK ((ds.map rowOf).map kvOf)) hdp
        refine ⟨kv, kd, dp, ds.map rowOf, rfl, (hk.same s1).same t1, upd_same, fun H2 s2 => ⟨_, rfl, ?_⟩⟩
        have s12 := (s1.trans t1).trans s2
        by_cases h2 : kindsD (keysD (.list ds)) kd = true
        · have h2' : kindsD ((ds.map rowOf).map (·.1)) kd = true := h2
          rw [h2']
          have hk2 := hk.same s12
          cases hk2 with
          | @lst b ys es eb lb rb =>
            have ea2 := (t1.trans s2) _ _ e
            refine ⟨_, rfl, a, _, rfl, .inl (SqL.of ea2), fun l1 n1 => ?_⟩
            have t3 := same_new (o := .lst (ps.map V.ref)) n1
            have hself3 := t3 _ _ (s12 _ _ hself)
            have nsl : self ≠ l1 := ne_of_none (s12 _ _ hself) n1
            have hl1 : upd H2 l1 (.lst (ps.map V.ref)) l1 = some (.lst (ps.map V.ref)) := upd_same
            refine ⟨_, rfl, self, C, dx, [], rfl, hself3, T.cl, T.nS, (by show 0 < 1000; decide), ?_⟩
            generalize upd H2 l1 (.lst (ps.map V.ref)) = H3 at t3 hself3 hl1 ⊢
            have s13 := s12.trans t3
            have o4 : Off self H3 (upd H3 self (.ins C dx (putF "sorts" (.ref l1) []))) := Off.upd
            have nbs : b ≠ self := ne_of (t3 _ _ eb) hself3 (by intro z; cases z)
            refine ⟨_, rfl, b, _, rfl, .inl (SqL.of (o4 _ _ (t3 _ _ eb) nbs)), fun l2 n2 => ?_⟩
            have hself4 : upd H3 self (.ins C dx (putF "sorts" (.ref l1) [])) self = some (.ins C dx (putF "sorts" (.ref l1) [])) := upd_same
            have t5 := same_new (o := .lst ys) n2
            have hl2 : upd (upd H3 self (.ins C dx (putF "sorts" (.ref l1) []))) l2 (.lst ys) l2 = some (.lst ys) := upd_same
            refine ⟨_, rfl, self, C, dx, _, rfl, t5 _ _ hself4, T.cl, T.nK, (by show 1 < 1000; decide), ?_⟩
            have nl2 : l2 ≠ self := (ne_of_none hself4 n2).symm
            generalize upd H3 self (.ins C dx (putF "sorts" (.ref l1) [])) = H4 at o4 n2 hself4 t5 hl2 ⊢
            generalize upd H4 l2 (.lst ys) = H5 at t5 hl2 ⊢
            have o6 : Off self H5 (upd H5 self (.ins C dx (putF "kinds" (.ref l2) (putF "sorts" (.ref l1) [])))) := Off.upd
            have oAll : Off self H3 (upd H5 self (.ins C dx (putF "kinds" (.ref l2) (putF "sorts" (.ref l1) [])))) := (o4.trans (Same.off t5)).trans o6
            have oH : Off self H (upd H5 self (.ins C dx (putF "kinds" (.ref l2) (putF "sorts" (.ref l1) [])))) := (Same.off s13).trans oAll
            have offD : ∀ {G G' : Hp} {u : V} {dd : PyData}, Off self G G' → G self = some (.ins C dx []) → Dt G u dd → Dt G' u dd := by
              intro G G' u dd og gs hd
              have key : ∃ Hm : Hp, Same Hm G' ∧ Dt Hm u dd := by
                refine ⟨fun q => if q = self then none else G q, fun q o e => ?_, ?_⟩
                · by_cases hq : q = self
                  · simp [hq] at e
                  · simp only [if_neg hq] at e
                    exact og q o e hq
                · have rec1 : (∀ {u : V} {dd : PyData}, Dt G u dd → Dt (fun q => if q = self then none else G q) u dd) := by
                    intro u dd hd
                    refine Dt.rec (motive_1 := fun u dd _ => Dt (fun q => if q = self then none else G q) u dd) (motive_2 := fun us ds _ => DtAll (fun q => if q = self then none else G q) us ds) .non .bl .int .str ?_ ?_ ?_ .nil (fun _ _ h1 h2 => .cons h1 h2) hd
                    · intro a xs ds e l _ ih
                      refine .lst ?_ l ih
                      have n : a ≠ self := ne_of e gs (by intro z; cases z)
                      simp only [if_neg n]
                      exact e
                    · intro a xs ds e l _ ih
                      refine .tup ⟨?_⟩ l ih
                      have n : a ≠ self := e.rd.elim (fun e => ne_of e gs (by intro z; cases z)) fun ⟨o, e⟩ => ne_of e gs (by intro z; cases z)
                      unfold Rd
                      simp only [if_neg n]
                      exact e.rd
                    · intro a e
                      refine .dct ?_
                      have n : a ≠ self := ne_of e gs (by intro z; cases z)
                      simp only [if_neg n]
                      exact e
                  exact rec1 hd
              obtain ⟨Hm, sm, dm⟩ := key
              exact dm.same sm
            have dS : Dt H3 (.ref l1) (.list ds) := .lst hl1 (by rw [List.length_map] at l ⊢; exact l) ((r.same (t1.trans s2)).same t3)
            have dK : Dt H3 (.ref b) (.list es) := hk.same s13
            have rb6 : DtAll (upd H5 self (.ins C dx (putF "kinds" (.ref l2) (putF "sorts" (.ref l1) [])))) ys es := by
              have q := offD oAll hself3 dK
              cases q with
              | @lst _ ys2 _ e2 _ r2 =>
                have e3 := oAll _ _ (t3 _ _ eb) nbs
                rw [e3] at e2
                cases e2
                exact r2
            have hH0 : H a = some (.lst (ps.map V.ref)) := by
              cases hs with
              | lst e0 _ _ =>
                have q := s1 _ _ e0
                rw [e] at q
                cases q
                exact e0
            have hH1 : H b = some (.lst ys) := by
              cases hk with
              | lst e0 _ _ =>
                have q := s12 _ _ e0
                rw [eb] at q
                cases q
                exact e0
            have nl2H : H l2 = none := by
              cases z : H l2 with
              | none => rfl
              | some o =>
                have q := ((Same.off s13).trans o4) _ _ z nl2
                rw [n2] at q
                cases q
            exact yes h1 h2 _ ⟨⟨dx, l1, l2, upd_same, offD oAll hself3 dS, .lst (o6 _ _ hl2 nl2) lb rb6⟩, sorts_flat h1, kinds_flat h2⟩ ⟨dx, l1, l2, a, b, _, _, upd_same, oAll _ _ hl1 nsl.symm, o6 _ _ hl2 nl2, s12.free n1, nl2H, rfl, rfl, hH0, hH1⟩ oH
          | _ => cases h2
        · have h2' : kindsD (keysD (.list ds)) kd = false := by simpa using h2
          have h2'' : kindsD ((ds.map rowOf).map (·.1)) kd = false := h2'
          rw [h2'']
          refine ⟨by show 1 ≤ 1000; decide, fun a2 na => ⟨a2, _, rfl, upd_same, fun d nd ne => ⟨rfl, d, _, upd_same, (by rw [upd_ne ne, upd_same]), ?_, ?_⟩⟩⟩
          · exact (raise_same (dx := d) (fs := []) na nd ne).1
          · obtain ⟨q1, q2⟩ := raise_same (dx := d) (fs := [("part", .str "kinds")]) na nd ne
            exact no2 h1 h2' _ d (s12.free q1) (s12.trans q2) upd_same
      | _ => cases h1
    · have h1' : sortsD sd = false := by simpa using h1
      rw [h1']
      refine ⟨by show 1 ≤ 1000; decide, fun a2 na => ⟨a2, _, rfl, upd_same, fun d nd ne => ⟨rfl, d, _, upd_same, (by rw [upd_ne ne, upd_same]), ?_, ?_⟩⟩⟩
      · exact (raise_same (dx := d) (fs := []) na nd ne).1
      · obtain ⟨q1, q2⟩ := raise_same (dx := d) (fs := [("part", .str "sorts")]) na nd ne
        exact no1 h1' _ d (s1.free q1) (s1.trans q2) upd_same
end
end Toy
set_option Elab.async false
set_option linter.all false
set_option maxRecDepth 100000
set_option maxHeartbeats 4000000
namespace Toy
open PySem PySem.Spec PyProof.Rows L2
theorem pe_gref {X : Cx} {x : Str} {a : Addr} {pos : Pos} (hg : Gl X x) (hm : X.mg x = some (.ref a)) (hd : (x == ("__debug__" : Str)) = false := by decide) : PE X (.Name x pos) (tC (.ref a)) := pe_glob (v := .ref a) hg hm rfl hd
/-- two stocks, or a stock and another thing -/
def spSEq (K : PySem.W.Frag) (C : Addr) : Sp := fun vs H Q _ => ∃ (a : Addr) (y : V) (ss ks : List PyData), vs = [.ref a, y] ∧ StkAt C H a ss ks ∧
  ((∃ (b : Addr) (ss' ks' : List PyData), y = .ref b ∧ StkAt C H b ss' ks' ∧ Q (.bl (PyData.eqv (.list ss) (.list ss') && PyData.eqv (.list ks) (.list ks'))) H) ∨
   ∃ t, TyX K H y t ∧ PySem.W.kitOne K t (.ref C) = some false ∧ Q (.bl false) H)
section
variable {P : Program} {w : World} {K : PySem.W.Frag} {mg : Str → Option Value} {base : Heap}
theorem dt_list {H : Hp} {l : Addr} {ds : List PyData} (h : Dt H (.ref l) (.list ds)) : ∃ xs, H l = some (.lst xs) ∧ xs.length ≤ 1000 ∧ DtAll H xs ds := by
  cases h with
  | lst e l r => exact ⟨_, e, l, r⟩
theorem stk_ty {C CN fX : Addr} (T : StkC K mg C CN fX) {H : Hp} {b : Addr} {ss ks : List PyData} (h : StkAt C H b ss ks) : TyX K H (.ref b) (.ref C) := by
  obtain ⟨⟨dx, l, m, e, _⟩, _, _⟩ := h
  exact .base (.ins e T.cl T.ca T.cg T.ct T.cm)
theorem scEq : FnScope ["self", "other"] ["self", "other"] (defScope sEq) := ⟨rfl, rfl, rfl, by decide +kernel, rfl, by decide +kernel, by decide +kernel⟩
theorem ok_eq {f fX C CN : Addr} {fd : FuncData} (F : Fun K "__eq__" "Stock.__eq__" sEq f fd) (M : Mods mg) (T : StkC K mg C CN fX) : FnOk P w K mg base CX0 1 f fd ["self", "other"] (spSEq K C) := by
  refine F.ok scEq (fun vs H Q E h => ?_) (fun cdv A outer s H vs Q E hr h => ?_)
  · obtain ⟨a, y, ss, ks, rfl, _⟩ := h
    rfl
  · obtain ⟨a, y, ss, ks, rfl, sa, k⟩ := h
    refine ⟨_, pss_one (ps_ret (pe_and (pe_callB call_isi (by rfl) M.isi (by decide +kernel) (pa_cons (pv 1) (pa_cons (pe_gref (by rfl) T.mgC) pa_nil)))
      (pe_and (pe_cmpR (op_eqD hr.units) (pe_fld (pv 0) rfl) (pe_fld (pv 1) rfl) (nomark _)) (pe_one (pe_cmpR (op_eqD hr.units) (pe_fld (pv 0) rfl) (pe_fld (pv 1) rfl) (nomark _)))))), ?_⟩
    rcases k with ⟨b, ss', ks', rfl, sb, k⟩ | ⟨t, ty, kt, k⟩
    · refine ⟨_, rfl, _, _, _, _, true, rfl, .own C, stk_ty T sb, T.kC, _, rfl, ?_⟩
      obtain ⟨⟨dx, l, m, e, h1, h2⟩, f1, f2⟩ := sa
      obtain ⟨⟨dx', l', m', e', h1', h2'⟩, f1', f2'⟩ := sb
      obtain ⟨xs, el, ll, rl⟩ := dt_list h1
      obtain ⟨ys, em, lm, rm⟩ := dt_list h2
      obtain ⟨xs', el', ll', rl'⟩ := dt_list h1'
      obtain ⟨ys', em', lm', rm'⟩ := dt_list h2'
      refine ⟨_, rfl, a, C, dx, _, _, rfl, e, T.cl, T.nS, sf_sorts l m, _, rfl, b, C, dx', _, _, rfl, e', T.cl, T.nS, sf_sorts l' m', .list ss, .list ss', .lst (SqL.of el) (rl.dp f1.nd), .lst (SqL.of el') (rl'.dp f1'.nd), f1.shape rl, f1'.shape rl', _, rfl, ?_⟩
      by_cases q : PyData.eqv (.list ss) (.list ss') = true
      · rw [q] at k ⊢
        rw [Bool.true_and] at k
        exact ⟨_, rfl, a, C, dx, _, _, rfl, e, T.cl, T.nK, sf_kinds l m, _, rfl, b, C, dx', _, _, rfl, e', T.cl, T.nK, sf_kinds l' m', .list ks, .list ks', .lst (SqL.of em) (rm.dp f2.nd), .lst (SqL.of em') (rm'.dp f2'.nd), f2.shape rm, f2'.shape rm', k⟩
      · have q' : PyData.eqv (.list ss) (.list ss') = false := by simpa using q
        rw [q'] at k ⊢
        exact k
    · exact ⟨_, rfl, _, _, _, _, false, rfl, .own C, ty, kt, _, rfl, k⟩
end
end Toy
set_option Elab.async false
set_option linter.all false
set_option maxRecDepth 100000
set_option maxHeartbeats 4000000
namespace Toy
open PySem PySem.Spec PyProof.Rows L2
/-! ### heaps without the source -/
theorem off_same {p : Addr} {H H' : Hp} (h : Off p H H') : Same (del H p) (del H' p) := fun b o e => by
  by_cases q : b = p
  · rw [q, del_same] at e
    cases e
  · rw [del_ne q] at e ⊢
    exact h b o e q
theorem del_sub {p : Addr} {H : Hp} : Same (del H p) H := fun b o e => by
  by_cases q : b = p
  · rw [q, del_same] at e
    cases e
  · rw [del_ne q] at e
    exact e
theorem SrcAt.mono {H : Hp} {p : Addr} {n m : Nat} (h : SrcAt H p n) (l : n ≤ m) : SrcAt H p m := by
  obtain ⟨a, b, c, e, b0, b1, c0, c1⟩ := h
  exact ⟨a, b, c, e, b0, b1, c0, by omega⟩
theorem SrcAt.same {H H' : Hp} {p : Addr} {n : Nat} (h : SrcAt H p n) (s : Same H H') : SrcAt H' p n := by
  obtain ⟨x, y, z, e, r⟩ := h
  exact ⟨x, y, z, s _ _ e, r⟩
theorem SrcAt.ne {H : Hp} {p q : Addr} {n : Nat} (h : SrcAt H p n) (n : H q = none) : q ≠ p := by
  obtain ⟨_, _, _, e, _⟩ := h
  exact (ne_of_none e n).symm
theorem SrcAt.some {H : Hp} {p : Addr} {n : Nat} (h : SrcAt H p n) : ∃ o, H p = some o := by
  obtain ⟨_, _, _, e, _⟩ := h
  exact ⟨_, e⟩
/-- what is new behind a draw was new ahead of it -/
theorem Off.free {p q : Addr} {H H' : Hp} {n : Nat} (h : Off p H H') (hp : SrcAt H' p n) (e : H' q = none) : H q = none := by
  have nq := hp.ne e
  cases z : H q with
  | none => rfl
  | some o =>
    rw [h q o z nq] at e
    cases e
/-! ### names -/
abbrev menuN : List Str := ["a", "ab", "leg", "b", "sort", "abc", "join", "zzzzzzzz", "ba", "kind"]
def noth : Str := "nothing"
def zzyS : Str := "zzzzzzzy"
/-- no name is one of these -/
def strgS : Str := "strange"
def okw (x : Str) : Bool := decide (x ≠ noth) && decide (x ≠ zzyS) && decide (x ≠ strgS)
def namesB (xs : List Str) : Bool := decide xs.Nodup && xs.all fun x => nameS x && okw x
structure Names (xs : List Str) : Prop where
  nd : xs.Nodup
  nm : ∀ x ∈ xs, nameS x = true ∧ okw x = true
theorem names_of {xs : List Str} (h : namesB xs = true) : Names xs := by
  unfold namesB at h
  rw [Bool.and_eq_true, decide_eq_true_eq, List.all_eq_true] at h
  refine ⟨h.1, fun x hx => ?_⟩
  have q := h.2 x hx
  rw [Bool.and_eq_true] at q
  exact q
theorem menu_names : ∀ a, a < 10 → ∀ m, m ≤ 6 → namesB (((menuN.drop a) ++ (menuN.take a)).take m) = true := by decide +kernel
def lastsC : List Nat := [109, 107, 120, 113, 119, 116]
def lettersB (w : Str) : Bool := w.cps.toList.all letter
theorem app_cps (a b : Str) : (a ++ b).cps = a.cps ++ b.cps := rfl
theorem app_len (a b : Str) : (a ++ b).length = a.length + b.length := by
  show (a.cps ++ b.cps).size = a.cps.size + b.cps.size
  exact Array.size_append
theorem letters_app {a b : Str} (ha : lettersB a = true) (hb : lettersB b = true) : lettersB (a ++ b) = true := by
  unfold lettersB at *
  rw [app_cps, Array.toList_append, List.all_append, ha, hb]
  rfl
/-- a word and one of the last signs -/
def Made (x : Str) (c : Nat) : Prop := ∃ w : Str, x = w ++ ⟨#[c]⟩ ∧ w.length ≤ 7 ∧ lettersB w = true
theorem made_ne {w z : Str} {c d : Nat} (hz : z.cps.toList.getLast? = some d) (hg : c ≠ d) : (w ++ (⟨#[c]⟩ : Str)) ≠ z := fun e => by
  have e2 := congrArg (fun s : Str => s.cps.toList.getLast?) e
  have e3 : (w ++ (⟨#[c]⟩ : Str)).cps.toList.getLast? = some c := by
    rw [app_cps, Array.toList_append]
    exact List.getLast?_concat
  have e5 : some c = some d := by
    rw [← e3, ← hz]
    exact e2
  exact hg (Option.some.inj e5)
theorem made_name {x : Str} {c : Nat} (h : Made x c) (hc : letter c = true) (hg : c ≠ 103 ∧ c ≠ 121 ∧ c ≠ 101) : nameS x = true ∧ okw x = true := by
  obtain ⟨w, rfl, hl, hw⟩ := h
  have hlen : (w ++ (⟨#[c]⟩ : Str)).length = w.length + 1 := app_len _ _
  refine ⟨?_, ?_⟩
  · unfold nameS
    rw [hlen, decide_eq_true (by omega : 1 ≤ w.length + 1), decide_eq_true (by omega : w.length + 1 ≤ 8)]
    have hb : lettersB (⟨#[c]⟩ : Str) = true := by
      show (([c] : List Nat).all letter) = true
      rw [List.all_cons, hc]
      rfl
    exact letters_app hw hb
  · unfold okw
    rw [decide_eq_true (made_ne (by decide +kernel) hg.1), decide_eq_true (made_ne (by decide +kernel) hg.2.1), decide_eq_true (made_ne (by decide +kernel) hg.2.2)]
    rfl
theorem made_nodup : ∀ {xs : List Str} {cs : List Nat}, Paired Made xs cs → cs.Nodup → xs.Nodup
  | _, _, .nil, _ => List.nodup_nil
  | _, _, .cons (a := x) (b := c) h t, n => by
    rw [List.nodup_cons] at n ⊢
    refine ⟨fun hx => ?_, made_nodup t n.2⟩
    have key : ∀ {xs : List Str} {cs : List Nat}, Paired Made xs cs → x ∈ xs → c ∈ cs := by
      intro xs cs r
      induction r with
      | nil => exact fun z => nomatch z
      | @cons y d ys ds hy _ ih =>
        intro z
        rcases List.mem_cons.mp z with e | z
        · obtain ⟨w, e1, _⟩ := h
          obtain ⟨w2, e2, _⟩ := hy
          have q : (w ++ (⟨#[c]⟩ : Str)).cps.toList.getLast? = (w2 ++ (⟨#[d]⟩ : Str)).cps.toList.getLast? := by rw [← e1, ← e2, e]
          rw [app_cps, app_cps, Array.toList_append, Array.toList_append] at q
          have q2 : some c = some d := by
            have l1 : (w.cps.toList ++ [c]).getLast? = some c := List.getLast?_concat
            have l2 : (w2.cps.toList ++ [d]).getLast? = some d := List.getLast?_concat
            rw [← l1, ← l2]
            exact q
          rw [Option.some.inj q2]
          exact List.mem_cons_self
        · exact List.mem_cons_of_mem _ (ih z)
    exact n.1 (key t hx)
theorem made_names {xs : List Str} {m : Nat} (h : Paired Made xs (lastsC.take m)) : Names xs := by
  have hnd : (lastsC.take m).Nodup := List.Nodup.sublist (List.take_sublist _ _) (by decide)
  refine ⟨made_nodup h hnd, fun x hx => ?_⟩
  have key : ∀ {xs : List Str} {cs : List Nat}, Paired Made xs cs → (∀ c ∈ cs, letter c = true ∧ (c ≠ 103 ∧ c ≠ 121 ∧ c ≠ 101)) → ∀ x ∈ xs, nameS x = true ∧ okw x = true := by
    intro xs cs r
    induction r with
    | nil => exact fun _ x z => nomatch z
    | @cons y d ys ds hy _ ih =>
      intro hc x z
      rcases List.mem_cons.mp z with e | z
      · rw [e]
        have q := hc d List.mem_cons_self
        exact made_name hy q.1 q.2
      · exact ih (fun c hcm => hc c (List.mem_cons_of_mem _ hcm)) x z
  refine key h (fun c hc => ?_) x hx
  have hm : c ∈ lastsC := List.mem_of_mem_take hc
  have all : ∀ c ∈ lastsC, letter c = true ∧ (c ≠ 103 ∧ c ≠ 121 ∧ c ≠ 101) := by decide +kernel
  exact all c hm
theorem cut_from (xs : List V) (k : Nat) (h : k ≤ xs.length) : cutV xs (some (k : Int)) none = xs.drop k := by
  unfold cutV
  rw [HT.sIx_nat, HT.sIx_none, Nat.min_eq_left h]
  exact List.take_of_length_le (by rw [List.length_drop]; exact Nat.le_refl _)
theorem cut_to (xs : List V) (k : Nat) : cutV xs none (some (k : Int)) = xs.take k := by
  unfold cutV
  rw [HT.sIx_nat, HT.sIx_none, Nat.sub_zero, List.drop_zero]
  by_cases h : k ≤ xs.length
  · rw [Nat.min_eq_left h]
  · rw [Nat.min_eq_right (by omega), List.take_of_length_le (Nat.le_refl _), List.take_of_length_le (by omega)]
theorem cutS_to (z : Str) (k : Nat) : (cutS z none (some (k : Int))).cps.toList = z.cps.toList.take k := by
  unfold cutS
  rw [HT.sIx_nat, HT.sIx_none, Nat.sub_zero, List.drop_zero]
  show z.cps.toList.take (min k z.length) = _
  have hz : z.length = z.cps.toList.length := by first | rfl | exact Array.length_toList.symm
  by_cases h : k ≤ z.length
  · rw [Nat.min_eq_left h]
  · rw [Nat.min_eq_right (by omega), List.take_of_length_le (by omega), List.take_of_length_le (by omega)]
def spNames : Sp := fun vs H Q _ => ∃ (p : Addr) (m n : Nat), vs = [.ref p, .int (m : Int)] ∧ SrcAt H p n ∧ n ≤ 10000 ∧ m ≤ 6 ∧
  ∀ (l : Addr) (xs : List Str) (H' : Hp), xs.length = m → Names xs → H l = none → H' l = some (.lst (xs.map V.str)) → SrcAt H' p (n + 100) → Off p H H' → Q (.ref l) H'
section
variable {P : Program} {w : World} {K : PySem.W.Frag} {mg : Str → Option Value} {base : Heap}
abbrev nmN : List Str := ["_law_source", "_law_many", "_law_some", "_law_at", "_law_found", "_law_last", "_law_word", "_law_k"]
theorem scNames : FnScope nmN ["_law_source", "_law_many"] (defScope sNames) := ⟨rfl, rfl, rfl, by decide +kernel, rfl, by decide +kernel, by decide +kernel⟩
theorem ok_names {f fN fO : Addr} {fd fdN fdO : FuncData} (F : Fun K "_law_names" "_law_names" sNames f fd)
    (GN : FnOk P w K mg base CX0 1 fN fdN ["_law_source", "_law_many"] spNext) (kN : PySem.W.keepIn K (.ref fN) = true) (bN : Binds K fdN ["_law_source", "_law_many"] []) (gN : mg "_law_next" = some (.ref fN))
    (GO : FnOk P w K mg base CX0 2 fO fdO ["_law_source", "_law_some"] spOne) (kO : PySem.W.keepIn K (.ref fO) = true) (bO : Binds K fdO ["_law_source", "_law_some"] []) (gO : mg "_law_one" = some (.ref fO)) (mR : mg "range" = none) :
    FnOk P w K mg base CX0 3 f fd ["_law_source", "_law_many"] spNames := by
  refine F.ok scNames (fun vs H Q E h => ?_) (fun cdv A outer s H vs Q E hr h => ?_)
  · obtain ⟨p, m, n, rfl, _⟩ := h
    rfl
  · obtain ⟨p, m, n, rfl, hp, hn, hm, k⟩ := h
    have hr1 : Room 1 (A.deeper (envOfC "_law_names" (defScope sNames) s.heap.objs.size f cdv)) := hr.mono (by decide)
    refine ⟨_, pss_cons (ps_set (i := 2) scNames.nd rfl (Or.inl rfl) (pe_lst (pa_cons pe_str (pa_cons pe_str (pa_cons pe_str (pa_cons pe_str (pa_cons pe_str (pa_cons pe_str (pa_cons pe_str (pa_cons pe_str (pa_cons pe_str (pa_cons pe_str pa_nil))))))))))))
      (pss_cons (ps_set (i := 3) scNames.nd rfl (Or.inl rfl) (pe_call GN hr1 (by rfl) gN kN bN .nil pass0 (pa_cons (pv 0) (pa_cons pe_int pa_nil))))
      (pss_cons (ps_if (pt_cmpR op_eq (pe_call GN hr1 (by rfl) gN kN bN .nil pass0 (pa_cons (pv 0) (pa_cons pe_int pa_nil))) pe_int (nomark _))
        (pss_one (ps_ret (pe_slice sl_list (pe_op op_cat (pe_slice sl_list (pv 2) (po_some (pv 3)) po_none) (pe_slice sl_list (pv 2) po_none (po_some (pv 3)))) po_none (po_some (pv 1))))) pss_nil)
      (pss_cons (ps_set (i := 4) scNames.nd rfl (Or.inl rfl) (pe_lst pa_nil))
      (pss_cons (ps_for PassesOwn.never rfl (pi_str (pe_slice sl_str pe_str po_none (po_some (pv 1)))) (pg_name (i := 5) scNames.nd rfl (Or.inl rfl))
        (pss_cons (ps_set (i := 6) scNames.nd rfl (Or.inl rfl) pe_str)
        (pss_cons (ps_for PassesOwn.never rfl (pi_range1 (by rfl) mR (pa_cons (pe_call GO hr (by rfl) gO kO bO .nil pass0 (pa_cons (pv 0) (pa_cons (pe_lst (pa_cons pe_int (pa_cons pe_int (pa_cons (pe_call GN hr1 (by rfl) gN kN bN .nil pass0 (pa_cons (pv 0) (pa_cons pe_int pa_nil))) pa_nil)))) pa_nil))) pa_nil)) (pg_name (i := 7) scNames.nd rfl (Or.inl rfl))
          (pss_one (ps_set (i := 6) scNames.nd rfl (Or.inl rfl) (pe_op op_add_str (pv 6) (pe_item_str pe_str (pe_call GN hr1 (by rfl) gN kN bN .nil pass0 (pa_cons (pv 0) (pa_cons pe_int pa_nil))) (fun _ _ => rfl))))))
        (pss_one (ps_expr (pe_bm PySem.F.plainAttrs_list PySem.F.slot_list_append PySem.F.type_list_append mt_append (pv 4) (pa_cons (pe_op op_add_str (pv 6) (pv 5)) pa_nil)))))))
      (pss_one (ps_ret (pv 4))))))), ?_⟩
    refine ⟨by show 10 ≤ sizeLine; decide, fun q nq => ?_⟩
    have s0 := same_new (o := .lst (menuN.map V.str)) nq
    have hq : upd H q (.lst (menuN.map V.str)) q = some (.lst (menuN.map V.str)) := upd_same
    have nqp := hp.ne nq
    have hp0 := hp.same s0
    refine ⟨_, rfl, p, 10, n, rfl, hp0, by decide, by decide, by omega, fun r H1 r0 r1 hp1 o1 => ?_⟩
    have hq1 := o1 _ _ hq nqp
    have oA : Off p H H1 := (Same.off s0).trans o1
    generalize upd H q (.lst (menuN.map V.str)) = H0 at s0 hq hp0 o1
    clear s0 hq hp0 o1
    obtain ⟨a, rfl⟩ := Int.eq_ofNat_of_zero_le r0
    refine ⟨_, rfl, p, 2, n + 1, rfl, hp1, by decide, by decide, by omega, fun r2 H2 r20 r21 hp2 o2 => ?_⟩
    have hq2 := o2 _ _ hq1 nqp
    have oB := oA.trans o2
    refine ⟨rfl, _, rfl, ite2 (fun h2 => ?_) (fun h2 => ?_)⟩
    · refine ⟨_, rfl, _, rfl, (a : Int), rfl, q, _, rfl, SqL.of hq2, fun u1 m1 => ?_⟩
      have t1 := same_new (o := .lst (cutV (menuN.map V.str) (some (a : Int)) none)) m1
      refine ⟨_, rfl, _, rfl, (a : Int), rfl, q, _, rfl, SqL.of (t1 _ _ hq2), fun u2 m2 => ?_⟩
      have t2 := same_new (o := .lst (cutV (menuN.map V.str) none (some (a : Int)))) m2
      refine ⟨u1, u2, _, _, rfl, rfl, t2 _ _ upd_same, upd_same, ?_, fun u3 m3 => ?_⟩
      · exact Nat.le_trans (Nat.add_le_add (cutV_length _ _ _) (cutV_length _ _ _)) (by show 20 ≤ sizeLine; decide)
      · have t3 := same_new (o := .lst (cutV (menuN.map V.str) (some (a : Int)) none ++ cutV (menuN.map V.str) none (some (a : Int)))) m3
        refine ⟨_, rfl, (m : Int), rfl, u3, _, rfl, SqL.of upd_same, fun u4 m4 => ?_⟩
        have t4 := same_new (o := .lst (cutV (cutV (menuN.map V.str) (some (a : Int)) none ++ cutV (menuN.map V.str) none (some (a : Int))) none (some (m : Int)))) m4
        have ha : a < 10 := by omega
        have e1 : cutV (cutV (menuN.map V.str) (some (a : Int)) none ++ cutV (menuN.map V.str) none (some (a : Int))) none (some (m : Int)) = (((menuN.drop a) ++ (menuN.take a)).take m).map V.str := by
          rw [cut_from _ _ (by rw [List.length_map]; exact Nat.le_of_lt ha), cut_to, cut_to, ← List.map_drop, ← List.map_take, ← List.map_append, ← List.map_take]
        have sAll := ((t1.trans t2).trans t3).trans t4
        have oC := oB.trans (Same.off sAll)
        refine k u4 _ _ ?_ (names_of (menu_names a ha m hm)) (oB.free hp2 (((t1.trans t2).trans t3).free m4)) (by rw [upd_same, e1]) ((hp2.same sAll).mono (by omega)) oC
        rw [List.length_take, List.length_append, List.length_drop, List.length_take]
        show min m ((10 - a) + min a 10) = m
        omega
    · refine ⟨Nat.zero_le _, fun l nl => ?_⟩
      have t1 := same_new (o := .lst []) nl
      have hl1 : upd H2 l (.lst []) l = some (.lst []) := upd_same
      have hp3 := hp2.same t1
      have nlp := hp2.ne nl
      have l0 : H l = none := oB.free hp2 nl
      generalize upd H2 l (.lst []) = H3 at t1 hl1 hp3 ⊢
      refine ⟨_, rfl, (m : Int), rfl, "mkxqwt", rfl, by decide +kernel, _, rfl, ?_⟩
      have oC := oB.trans (Same.off t1)
      have hz := cutS_to "mkxqwt" m
      have hzl : (cutS "mkxqwt" none (some (m : Int))).cps.size = m := by
        rw [← Array.length_toList, hz, List.length_take]
        show min m 6 = m
        omega
      refine for_it (walk_str (z := cutS "mkxqwt" none (some (m : Int)))) (fun i σ H' => ∃ y5 y6 y7 xs, σ = [some (.ref p), some (.int (m : Int)), some (.ref q), some (.int (a : Int)), some (.ref l), y5, y6, y7] ∧ Off p H H' ∧ SrcAt H' p (n + 2 + 10 * i) ∧ H' l = some (.lst (xs.map V.str)) ∧ Paired Made xs (lastsC.take i))
        ⟨none, none, none, [], rfl, oC, hp3, hl1, .nil⟩ (fun _ _ _ _ _ => trivial) ?_ ?_
      · rintro i x σ H4 H5 hi ⟨y5, y6, y7, xs, rfl, o4, hp4, hl4, pr⟩ ⟨rfl, c, hc, rfl⟩
        rw [hzl] at hi
        have hc2 : lastsC[i]? = some c := by
          have q := hc
          rw [← Array.getElem?_toList, hz, List.getElem?_take_of_lt hi] at q
          exact q
        refine ⟨_, rfl, _, rfl, p, 8, n + 2 + 10 * i, rfl, hp4, by decide, by decide, by omega, fun r5 H5 r50 r51 hp5 o5 => ?_⟩
        refine ⟨by show 3 ≤ sizeLine; decide, fun u nu => ?_⟩
        have t5 := same_new (o := .lst [.int 0, .int 1, .int r5]) nu
        have nup := hp5.ne nu
        refine ⟨p, u, _, _, rfl, hp5.same t5, by omega, upd_same, nup, (by show 1 ≤ 3; decide), (by show 3 ≤ 1000; decide), fun x H6 hx hp6 o6 => ?_⟩
        obtain ⟨r6, hr6, hr60, hr61⟩ : ∃ r6 : Nat, x = .int (r6 : Int) ∧ 0 ≤ r6 ∧ r6 ≤ 7 := by
          have hx2 : x = .int 0 ∨ x = .int 1 ∨ x = .int r5 := by simpa using hx
          rcases hx2 with rfl | rfl | rfl
          · exact ⟨0, rfl, by decide, by decide⟩
          · exact ⟨1, rfl, by decide, by decide⟩
          · exact ⟨r5.toNat, by rw [Int.toNat_of_nonneg r50], Nat.zero_le _, by omega⟩
        subst hr6
        refine ⟨(r6 : Int), rfl, by omega, by omega, ?_⟩
        have oD := ((o4.trans o5).trans (Same.off t5)).trans o6
        have hl6 : H6 l = some (.lst (xs.map V.str)) := o6 _ _ (t5 _ _ (o5 _ _ hl4 nlp)) nlp
        have er : (r6 : Int).toNat = r6 := Int.toNat_natCast r6
        rw [er]
        refine for_range (n := r6) (fun j σ H' => ∃ y7 wd, σ = [some (.ref p), some (.int (m : Int)), some (.ref q), some (.int (a : Int)), some (.ref l), some (.str ⟨#[c]⟩), some (.str wd), y7] ∧ Off p H H' ∧ SrcAt H' p (n + 2 + 10 * i + 2 + j) ∧ H' l = some (.lst (xs.map V.str)) ∧ wd.length ≤ j ∧ lettersB wd = true)
          ⟨y7, "", rfl, oD, hp6, hl6, Nat.le_refl _, rfl⟩ ?_ ?_
        · rintro j σ H7 hj ⟨y7', wd, rfl, o7, hp7, hl7, wl, wL⟩
          refine ⟨_, rfl, _, rfl, p, 26, _, rfl, hp7, by decide, by decide, by omega, fun r8 H8 r80 r81 hp8 o8 => ?_⟩
          obtain ⟨b, rfl⟩ := Int.eq_ofNat_of_zero_le r80
          have hb : b < 26 := by omega
          have alph : ∀ b, b < 26 → ∃ d, LET.cps[b]? = some d ∧ letter d = true := by
            intro b hb
            have hb2 : b < LET.cps.toList.length := by
              have e : LET.cps.toList.length = 26 := by decide +kernel
              omega
            refine ⟨LET.cps.toList[b], ?_, ?_⟩
            · rw [← Array.getElem?_toList, List.getElem?_eq_getElem hb2]
            · exact decide_eq_true (List.getElem_mem hb2)
          obtain ⟨d, hd, dl⟩ := alph b hb
          refine ⟨LET, _, d, rfl, rfl, by omega, by omega, ?_, ?_, ?_⟩
          · have e : LET.length = 26 := by decide +kernel
            show (b : Int) < (LET.length : Int)
            rw [e]
            omega
          · rw [Int.toNat_natCast]
            exact hd
          · have one1 : ((⟨#[d]⟩ : Str)).length = 1 := rfl
            refine ⟨wd, ⟨#[d]⟩, rfl, rfl, ?_, ?_⟩
            · rw [one1, sizeLine_eq]
              omega
            · refine ⟨_, wd ++ ⟨#[d]⟩, rfl, o7.trans o8, hp8.mono (by omega), o8 _ _ hl7 nlp, ?_, ?_⟩
              · rw [app_len, one1]
                omega
              · refine letters_app wL ?_
                show (([d] : List Nat).all letter) = true
                rw [List.all_cons, dl]
                rfl
        · rintro σ H7 ⟨y7', wd, rfl, o7, hp7, hl7, wl, wL⟩
          have one1 : ((⟨#[c]⟩ : Str)).length = 1 := rfl
          refine ⟨_, rfl, .inl ⟨rfl, _, SqL.of hl7⟩, _, rfl, _, rfl, wd, ⟨#[c]⟩, rfl, rfl, ?_, ?_⟩
          · rw [one1, sizeLine_eq]
            omega
          · have prl : xs.length = i := by
              have q := pr.length
              rw [List.length_take] at q
              have e6 : lastsC.length = 6 := rfl
              omega
            refine ⟨l, _, _, rfl, rfl, hl7, ?_, ?_⟩
            · rw [List.length_map]
              exact small1000 (by omega)
            · refine ⟨_, _, _, xs ++ [wd ++ ⟨#[c]⟩], rfl, ?_, ?_, ?_, ?_⟩
              · intro b o e nb
                have nbl : b ≠ l := fun z => by
                  rw [z, l0] at e
                  cases e
                rw [upd_ne nbl]
                exact o7 b o e nb
              · obtain ⟨x1, x2, x3, e1, rest⟩ := hp7
                exact SrcAt.mono ⟨x1, x2, x3, by rw [upd_ne nlp.symm]; exact e1, rest⟩ (by omega)
              · rw [upd_same, List.map_append]
                rfl
              · rw [List.take_add_one, hc2]
                exact pr.snoc ⟨wd, rfl, by omega, wL⟩
      · rintro σ H4 ⟨y5, y6, y7, xs, rfl, o4, hp4, hl4, pr⟩
        rw [hzl] at hp4 pr
        have prl : xs.length = m := by
          have q := pr.length
          rw [List.length_take] at q
          have e6 : lastsC.length = 6 := rfl
          omega
        exact ⟨_, rfl, k l xs H4 prl (made_names pr) l0 hl4 (hp4.mono (by omega)) o4⟩
end
end Toy
set_option Elab.async false
set_option linter.all false
set_option maxRecDepth 100000
set_option maxHeartbeats 2000000
namespace L2
open PySem PySem.Spec PyProof.Rows Toy
section
variable {X : Cx}
theorem strs_are : ∀ {xs : List Str} {us : List Value}, Vals (xs.map V.str) us → StrsAre us xs
  | [], _, .nil => .nil
  | x :: xs, _, .cons r t => by
    obtain ⟨k, rfl⟩ := r
    exact .cons x k (strs_are t)
theorem isStr_count (k : Str) : ∀ {vs : List Value} {ys : List Str}, StrsAre vs ys → vs.countP (isStrOf k) = ys.count k
  | _, _, .nil => rfl
  | _, _, .cons n u h => by
    rw [List.countP_cons, List.count_cons, isStr_count k h]
    rfl
/-- xs.count(k), xs a list of texts -/
def rCntS (K : PySem.W.Frag) : V → List V → Hp → VK → Prop := fun x xs H Q => ∃ (p : Addr) (ns : List Str) (k : Str), x = .ref p ∧ xs = [.str k] ∧ SqL K H p (ns.map V.str) ∧ Q (.int (ns.count k : Nat)) H
theorem mt_lcountS : MtR X "list.count" (rCntS X.K) := by
  intro pins s σ H x xs v us Q I rx rxs h
  obtain ⟨p, ns, k, rfl, rfl, hs, q⟩ := h
  cases rx
  obtain ⟨u, rfl, ru⟩ := rxs.one
  obtain ⟨t, rfl⟩ := ru
  obtain ⟨its, rv, ⟨⟨cls, dd, data, sl⟩, n, ho, hc, hdn, hd⟩, hlen⟩ := I.list hs
  simp only at hc hd
  subst hc hd
  have hi := strs_are rv
  refine call_meets PySem.F.slot_list_count ⟨_, ho, rfl⟩ PySem.F.entry_list_count (PySem.F.args_list_count_2 _ _)
    (SeqAt.list_countAt p its.toArray n dd sl (.str k t) (isStrOf k)) ⟨ho, fun y hy => (eq_isStrOf k t hi y (by simpa using hy)).at _ _, ?_⟩
  have ec : its.toArray.toList.countP (isStrOf k) = ns.count k := isStr_count k hi
  refine ⟨.int (ns.count k : Nat), H, I.tok _, ⟨s.toks, ?_⟩, q⟩
  show Value.int ((its.toArray.toList.countP (isStrOf k) : Nat) : Int) s.toks = Value.int ((ns.count k : Nat) : Int) s.toks
  rw [ec]
/-- t.count(k), t a tuple of texts -/
def rCntT (K : PySem.W.Frag) : V → List V → Hp → VK → Prop := fun x xs H Q => ∃ (p : Addr) (ns : List Str) (k : Str), x = .ref p ∧ xs = [.str k] ∧ SqT K H p (ns.map V.str) ∧ Q (.int (ns.count k : Nat)) H
theorem mt_tcountS : MtR X "tuple.count" (rCntT X.K) := by
  intro pins s σ H x xs v us Q I rx rxs h
  obtain ⟨p, ns, k, rfl, rfl, hs, q⟩ := h
  cases rx
  obtain ⟨u, rfl, ru⟩ := rxs.one
  obtain ⟨t, rfl⟩ := ru
  obtain ⟨its, rv, ht, hlen⟩ := I.tuple hs
  obtain ⟨⟨cls, dd, data, sl⟩, ho, hc, n, hd⟩ := id ht
  simp only at hc hd
  subst hc hd
  have hi := strs_are rv
  refine call_meets PySem.F.slot_tuple_count ⟨_, ho, rfl⟩ PySem.F.entry_tuple_count (PySem.F.args_tuple_count_2 _ _)
    (SeqAt.tuple_countAt p its.toArray n dd sl (.str k t) (isStrOf k)) ⟨ho, fun y hy => (eq_isStrOf k t hi y (by simpa using hy)).at _ _, ?_⟩
  have ec : its.toArray.toList.countP (isStrOf k) = ns.count k := isStr_count k hi
  refine ⟨.int (ns.count k : Nat), H, I.tok _, ⟨s.toks, ?_⟩, q⟩
  show Value.int ((its.toArray.toList.countP (isStrOf k) : Nat) : Int) s.toks = Value.int ((ns.count k : Nat) : Int) s.toks
  rw [ec]
/-- factorial(n) -/
def rFac : List V → Hp → VK → Prop := fun vs H Q => ∃ n : Nat, vs = [.int (n : Int)] ∧ n ≤ 1000 ∧ Q (.int ((Builtin.Math.factorialNat n : Nat) : Int)) H
theorem cr_fac : CallR X (.builtin "math.factorial") rFac := by
  intro pins s σ H vs us Q I r h
  obtain ⟨a, rfl, ha, q⟩ := h
  obtain ⟨u, rfl, ru⟩ := r.one
  obtain ⟨t, rfl⟩ := ru
  exact PySem.W.mc_factorial (by omega) (by omega) fun _ => ⟨.int _, H, I.tok _, ⟨_, rfl⟩, q⟩
end
end L2
set_option Elab.async false
set_option linter.all false
set_option maxRecDepth 100000
set_option maxHeartbeats 2000000
namespace PySem
open Sem (wp)
open AutoSeq1 (wpAny_loadPart')
/-! ### enumerate of a tuple -/
theorem toy_enum_newT (l : Addr) (items : Array Value) (n : Nat) (dct : Option Addr) (sl : Array (Option Value)) :
    Meets (Builtin.«enumerate.__new__» ⟨[.type "enumerate", .ref l], []⟩) (fun _ R s => s.heap.get? l = some { cls := .type "tuple", dict := dct, data := .seq items n, slots := sl } ∧
      R (.ok (.ret (.ref (s.heap.push { cls := .type "tuple_iterator", data := .fields #[.ref l, .int 0 0] }).objs.size)))
        { s with heap := (s.heap.push { cls := .type "tuple_iterator", data := .fields #[.ref l, .int 0 0] }).push { cls := .type "enumerate", data := .fields #[.none, .bool false, .ref s.heap.objs.size, rawInt 0, .none, .none] } }) :=
  .of_wp fun prog w A R s h => by
    obtain ⟨hp, g, d, tk, os⟩ := s; obtain ⟨hl, h⟩ := h
    have hsub := sub_enumerate
    have hL : Heap.IsTuple (Shared.heap ⟨hp, g, d, tk, os⟩) l items := ⟨_, hl, rfl, n, rfl⟩
    wp_walk using wpAny_loadPart' hl
    refine wpAny_stack_any fun st => wpAny_pure ?_
    split
    · rename_i c _ _ _ _ _
      cases (c == Value.type "enumerate")
      · wp_walk using wpAny_loadPart' hl, wpAny_pyIter_tuple hL
        exact ⟨_, rfl, h⟩
      · wp_walk using wpAny_loadPart' hl, wpAny_pyIter_tuple hL
        exact ⟨_, rfl, h⟩
    · wp_walk using wpAny_loadPart' hl, wpAny_pyIter_tuple hL
      exact ⟨_, rfl, h⟩
section
variable {prog : Program} {w : World} {A : Around} {E : Value → Shared → Prop} {s : Shared}
theorem toy_call_enumT {l : Addr} {items : Array Value} {Q : Value → Shared → Prop} (hL : s.heap.IsTuple l items)
    (h : ∀ h', IsEnum h' (s.heap.objs.size + 1) s.heap.objs.size 0 .none → h'.IsTupleIter s.heap.objs.size l 0 → h'.objs.size = s.heap.objs.size + 2 →
      (∀ b o, s.heap.get? b = some o → h'.get? b = some o) → Q (.ref (s.heap.objs.size + 1)) { s with heap := h' }) :
    wpAny (model prog w) A (call (.type "enumerate") [.ref l]) Q E s := by
  obtain ⟨⟨c, dct, dt, sl⟩, hl, hc, n, hd⟩ := hL
  replace hc : c = .type "tuple" := hc
  replace hd : dt = .seq items n := hd
  subst hc hd
  refine callType_new F.called_enumerate (by decide) (F.typeCall_enumerate_1 _) (F.newCall_enumerate_1 _) (fun obj => F.args_object_init_2 obj _) F.entry_enumerate_new
    (toy_enum_newT l items n dct sl) ⟨hl, ?_⟩
  have hz : (s.heap.push { cls := .type "tuple_iterator", data := .fields #[.ref l, .int 0 0] }).objs.size = s.heap.objs.size + 1 := Heap.size_push ..
  show _ ∧ _
  rw [hz]
  have he : IsEnum ((s.heap.push { cls := .type "tuple_iterator", data := .fields #[.ref l, .int 0 0] }).push
      { cls := .type "enumerate", data := .fields #[.none, .bool false, .ref s.heap.objs.size, rawInt 0, .none, .none] }) (s.heap.objs.size + 1) s.heap.objs.size 0 .none := by
    have := Heap.get?_push_size (s.heap.push { cls := .type "tuple_iterator", data := .fields #[.ref l, .int 0 0] })
      (o := { cls := .type "enumerate", data := .fields #[.none, .bool false, .ref s.heap.objs.size, rawInt 0, .none, .none] }) rfl
    rw [hz] at this; exact this
  refine ⟨⟨_, he, rfl⟩, h _ he ⟨_, Heap.get?_push_of_some _ (Heap.get?_push_size _ rfl), rfl, rfl⟩ (by rw [Heap.size_push, hz]) fun b o x => Heap.get?_push_of_some _ (Heap.get?_push_of_some _ x)⟩
theorem toy_enum_endT {e it l : Addr} {i : Nat} {c : Int} {items : Array Value} {old : Value} {Q : Option Value → Shared → Prop} (hh : A.handled = none)
    (he : IsEnum s.heap e it c old) (hit : s.heap.IsTupleIter it l i) (hl : s.heap.IsTuple l items) (hx : items[i]? = none)
    (hQ : ∀ h', Heap.ExtBut it s.heap h' → Q none { s with heap := h' }) : wpAny (model prog w) A (pyNext (.ref e)) Q E s := by
  have hT : s.TypeIs (.ref e) "enumerate" := ⟨_, he, rfl⟩
  unfold pyNext
  refine wpAny_bind (wpAny_attempt (wpAny_callSpecial?_slot (name := Str.ofString "__next__") hT F.slot_enumerate_next
    (wpAny_call_entry F.slot_enumerate_next hT F.entry_enumerate_next ?_ (F.args_enumerate_next_1 _))))
  show wpAny _ _ (field (.ref e) 2 >>= _) _ _ _
  refine wpAny_bind (wpAny_field he rfl (x := .ref it) rfl ?_)
  refine wpAny_bind (wpAny_nextOf_tuple_end hh hit hl hx fun h' x he' hx' => ?_)
  obtain ⟨o, ho, hc⟩ := hx'
  refine wpAny_bind (wpAny_isInstance (T := "StopIteration") (b := true) ⟨o, ho, hc⟩ isSubtype_stop ?_)
  exact wpAny_pure (hQ _ he')
end
end PySem
namespace L2
open PySem PySem.Spec PyProof.Rows Toy
/-- the tuple at a as it stands at each turn, each item in a new pair -/
def Itet (K : PySem.W.Frag) (a : Addr) : It :=
  ⟨fun i H => ∃ (xs : List V) (x : V), SqT K H a xs ∧ xs[i]? = some x, fun i H v H' => ∃ T x, v = .ref T ∧ H T = none ∧ H' = upd H T (.tup [.int (i : Nat), x]) ∧ ∀ xs, SqT K H a xs → xs[i]? = some x, fun i H => ∃ xs : List V, SqT K H a xs ∧ xs.length ≤ i⟩
theorem tuple_one {h : Heap} {a : Addr} {xs ys : Array Value} (p : IsTup h a xs) (q : IsTup h a ys) : xs = ys := by
  obtain ⟨o, h1, _, n, h2⟩ := p
  obtain ⟨o', h1', _, n', h2'⟩ := q
  rw [h1] at h1'
  cases h1'
  rw [h2] at h2'
  cases h2'
  rfl
theorem turn_enumT {P : Program} {w : World} {K : PySem.W.Frag} {elts : List Expr} {kk : Nat} {tpos : Pos} (a e it : Addr) :
    Turn P w K (.Tuple elts kk tpos) (Itet K a) [e, it] e (fun i h => (∃ old, IsEnum h e it ((i : Nat) : Int) old) ∧ h.IsTupleIter it a i ∧ e ≠ it ∧ a < it) where
  mem := by simp
  obj := fun i h st b hb => by
    obtain ⟨⟨old, he⟩, ⟨o, ho, hc, hd⟩, _⟩ := st
    have e' : b = e ∨ b = it := by simpa using hb
    rcases e' with z | z
    · rw [z]; exact ⟨_, he, fun v q => nomatch q⟩
    · rw [z]; exact ⟨o, ho, fun v q => by rw [hd] at q; cases q⟩
  keep := fun i h h' st k => let ⟨⟨old, he⟩, hi, hne⟩ := st; ⟨⟨old, k e (by simp) _ he⟩, hi.at fun o q => k it (by simp) o q, hne⟩
  item := by
    intro X hP hw hK hc i pins s σ H E I hf st hg
    subst hP hw hK
    obtain ⟨⟨old, he⟩, hit, hne, hlt⟩ := st
    obtain ⟨xs, x, hq, hx⟩ := hg
    obtain ⟨its, rv, p, hz⟩ := I.tuple hq
    obtain ⟨u, hu, ru⟩ := rv.get hx
    have hel : e < s.heap.objs.size := Heap.lt_size he
    have hil : it < s.heap.objs.size := by obtain ⟨_, q, _⟩ := hit; exact Heap.lt_size q
    have hae : a ≠ e := fun z => by
      obtain ⟨o, h1, h2, n, h3⟩ := id p
      rw [z] at h1
      have h4 : s.heap.get? e = some _ := he
      rw [h1] at h4
      cases h4
      injection h2 with q
      exact absurd q (by decide)
    have hidx : i < its.toArray.size := by
      have := (List.getElem?_eq_some_iff.mp hu).1
      simpa using this
    have hh : (X.A.in1).handled = none := (I.ok.hd hc)
    refine wpAny_pyNext_enum_itemD (i := i) (Draws.tuple hh it a (Nat.ne_of_lt hlt) its.toArray) he ⟨hit, p⟩ hidx hne (by simpa using ⟨hne, fun z => hae z.symm⟩) fun y h' tk hy ho st' hT hsz hk => ?_
    have eyu : y = u := by
      have h1 : its.toArray[i]? = some y := hy
      have h2 : its.toArray[i]? = some u := by simpa using hu
      rw [h1] at h2
      exact Option.some.inj h2
    subst eyu
    refine ⟨_, rfl, wpAny_letOwnedTupleGo_enum (s := { s with heap := h', toks := tk + 1 }) ho fun h'' he' sb => ?_⟩
    have hT2 : h''.get? s.heap.objs.size = some { cls := .type "tuple", data := .seq #[.int i tk, y] } := (sb.2 _ (Nat.ne_of_gt hel)).trans hT
    have new : ObjOk X.prog X.w (upd H s.heap.objs.size (.tup [.int (i : Nat), x])) h'' s.heap.objs.size (.tup [.int (i : Nat), x]) :=
      ⟨by show 2 ≤ sizeLine; decide, [.int i tk, y], .cons ⟨_, rfl⟩ (.cons ru .nil), ⟨_, hT2, rfl, _, rfl⟩⟩
    have I1 : Inv X pins σ (upd H s.heap.objs.size (.tup [.int (i : Nat), x])) { s with heap := h'', toks := tk + 1 } :=
      I.turnedNew (ch := [e, it]) (fun b ob hb q => (sb.2 b (fun z => hb (by simp [z]))).trans (hk b ob (fun z => hb (by simp [z])) (fun z => hb (by simp [z])) q)) hf (Nat.le_refl _) new
    refine ⟨.ref s.heap.objs.size, _, I1, rfl, ⟨_, x, rfl, I.hok.fresh (Nat.le_refl _), rfl, fun ys hy' => ?_⟩, ⟨⟨y, ?_⟩, st'.1.at fun o q => (sb.2 it (Ne.symm hne)).trans q, hne, hlt⟩, fun b hb => ?_⟩
    · obtain ⟨its2, rv2, p2, _⟩ := I.tuple hy'
      have e2 := tuple_one p p2
      have e3 : its = its2 := by simpa using congrArg Array.toList e2
      subst e3
      have e4 : xs = ys := rv.inj rv2
      rw [← e4]
      exact hx
    · have e1 : ((i + 1 : Nat) : Int) = (i : Int) + 1 := by omega
      rw [e1]; exact he'
    · have hb' : b < s.heap.objs.size := by
        have e' : b = e ∨ b = it := by simpa using hb
        rcases e' with z | z
        · rw [z]; exact hel
        · rw [z]; exact hil
      rw [upd_ne (Nat.ne_of_lt hb')]
      exact (hf b hb).1
  done := by
    intro X hP hw hK hc i pins s σ H E I hf st hg
    subst hP hw hK
    obtain ⟨⟨old, he⟩, hit, hne, hlt⟩ := st
    obtain ⟨xs, hq, hx⟩ := hg
    obtain ⟨its, rv, p, hz⟩ := I.tuple hq
    obtain ⟨f0, f1, f2, f3, f4, f5⟩ := hf it (by simp)
    have hl := rv.length
    exact toy_enum_endT (I.ok.hd hc) he hit p (by simp; omega) fun h' eb => ⟨rfl, I.turned (t' := s.toks) (fun b o hb q => eb b o hb q) f0 f1 f3 f4 f5⟩
  self := fun A i s Q E st h => let ⟨⟨_, he⟩, _⟩ := st; wpAny_pyIter_enum he h
def iEnumT (K : PySem.W.Frag) (ta : TA) : TI := fun σ H R => ta σ H fun vs H1 => ∃ a xs, vs = [.ref a] ∧ SqT K H1 a xs ∧ R (Itet K a) H1
theorem pi_enumT {X : Cx} {e : Expr} {ta : TA} {p pos tpos : Pos} {elts : List Expr} {kk : Nat} (hg : Gl X "enumerate") (hm : X.mg "enumerate" = none) (ha : PA X [e] ta) (hs : starEach [e] X.env = [(false, eval e X.env)] := by rfl) :
    PI X (.Tuple elts kk tpos) (.Call (.Name "enumerate" p) [e] [] pos) (iEnumT X.K ta) := by
  refine ⟨fun pins s σ H R I h => ?_⟩
  refine Call_ (ld_blt I hg hm boot_enumerate (PyProof.Rows.callWith_type1 (thn (ha.run pos pins s σ H _ I h) fun us s1 ⟨vs, H1, I1, r1, q1⟩ => ?_) hs rfl))
  obtain ⟨a, xs, ex, hq, q⟩ := q1
  subst ex
  cases r1 with
  | cons r rr =>
    cases rr
    cases r
    obtain ⟨its, rv, p', hz⟩ := I1.tuple hq
    have hlt : a < s1.heap.objs.size := by
      obtain ⟨o, h1, _⟩ := id p'
      exact Heap.lt_size h1
    refine toy_call_enumT p' fun h' he hit hsz hk => wpAny_pyIter_enum he ?_
    have I2 : Inv X pins σ H1 { s1 with heap := h' } := I1.kept (t' := s1.toks) hk
    refine ⟨s1.heap.objs.size + 1, [s1.heap.objs.size + 1, s1.heap.objs.size], _, _, H1, rfl, I2, turn_enumT a (s1.heap.objs.size + 1) s1.heap.objs.size, ⟨⟨.none, he⟩, hit, Nat.succ_ne_self _, hlt⟩, fun b hb => ?_, q⟩
    have e' : b = s1.heap.objs.size + 1 ∨ b = s1.heap.objs.size := by simpa using hb
    have hle : s1.heap.objs.size ≤ b := by
      rcases e' with z | z
      · rw [z]; exact Nat.le_add_right _ _
      · rw [z]; exact Nat.le_refl _
    exact I1.fpOk hle (I1.hok.fresh hle)
theorem walk_enumT {K : PySem.W.Frag} {a : Addr} {xs : List V} : Walk (Itet K a) xs.length (fun H => SqT K H a xs) (YPair (fun i => some (.int (i : Nat))) (fun i => xs[i]?)) := by
  refine ⟨fun i _ hi q => ⟨xs, xs[i], q, by simp [hi]⟩, fun _ q => ⟨xs, q, Nat.le_refl _⟩, fun i H v H' _ q y => ?_⟩
  obtain ⟨T, x, h1, h2, h3, h4⟩ := y
  exact ⟨T, .int (i : Nat), x, h1, h2, h3, rfl, h4 xs q⟩
end L2
set_option Elab.async false
set_option linter.all false
set_option maxRecDepth 100000
set_option maxHeartbeats 2000000
namespace L2
open PySem PySem.Spec PyProof.Rows Toy HT
/-! ### tuples whose object is known to be plain: their methods can be called -/
/-- a tuple of these at a, without a dict of its own -/
def PlT (H : Hp) (a : Addr) (xs : List V) : Prop := ∃ o : Obj, H a = some (.frz o (.tup xs)) ∧ o.dict = none ∧ o.cls = .type "tuple"
theorem PlT.same {H H' : Hp} {a : Addr} {xs : List V} (h : PlT H a xs) (s : Same H H') : PlT H' a xs := let ⟨o, e, d, c⟩ := h; ⟨o, s _ _ e, d, c⟩
theorem PlT.rd {H : Hp} {a : Addr} {xs : List V} (h : PlT H a xs) : Rd H a (.tup xs) := let ⟨o, e, _, _⟩ := h; .inr ⟨o, e⟩
theorem PlT.sq {K : PySem.W.Frag} {H : Hp} {a : Addr} {xs : List V} (h : PlT H a xs) : SqT K H a xs := .inl h.rd
theorem PlT.ne {H : Hp} {a q : Addr} {xs : List V} (h : PlT H a xs) (n : H q = none) : a ≠ q := let ⟨_, e, _, _⟩ := h; ne_of_none e n
section
variable {X : Cx}
/-- tuple(xs), of a list, or t itself -/
theorem call_tuple_ofP : CallR X (.type "tuple") (fun xs H Q => ∃ p ys, xs = [.ref p] ∧ ((SqL X.K H p ys ∧ ∀ l H', H l = none → Same H H' → PlT H' l ys → (∀ b, b ≠ l → H' b = H b) → Q (.ref l) H') ∨ (SqT X.K H p ys ∧ Q (.ref p) H))) := by
  intro pins s σ H xs us Q I r h
  obtain ⟨p, ys, rfl, h⟩ := h
  obtain ⟨u, rfl, rx⟩ := vals1 r
  cases rx
  rcases h with ⟨hq, q⟩ | ⟨hq, q⟩
  · obtain ⟨its, r', pl, hz⟩ := I.list hq
    have hlen := r'.length
    refine call_tuple_list pl.isList (fun h' kp => ?_) (by simp only [List.size_toArray] <;> omega)
    have I1 : Inv X pins σ H { s with heap := h' } := I.kept (t' := s.toks) kp
    have hn := I1.hok.fresh (Nat.le_refl _)
    have I2 : Inv X pins σ (upd H h'.objs.size (.frz { cls := .type "tuple", data := .seq its.toArray } (.tup ys))) { s with heap := h'.push { cls := .type "tuple", data := .seq its.toArray } } :=
      I1.laid (t' := s.toks) (fun b o e => Heap.get?_push_of_some _ e) (Nat.le_refl _) (show ObjOk X.prog X.w _ _ _ (.frz _ (.tup ys)) from ⟨Heap.get?_push_size _ rfl, hz, its, r', IsTup.new _ _⟩)
    exact ⟨.ref h'.objs.size, _, I2, rfl, q _ _ hn (fun b x e => (upd_ne (ne_of_none e hn)).trans e) ⟨_, upd_same, rfl, rfl⟩ fun b nb => upd_ne nb⟩
  · obtain ⟨its, r', pl, hz⟩ := I.tuple hq
    exact call_tuple_same pl ⟨.ref p, H, I, rfl, q⟩
/-- t[lo:hi]: the whole of it is t itself -/
def rSlP (K : PySem.W.Frag) : V → Option Int → Option Int → Hp → VK → Prop := fun x lo hi H Q => ∃ a xs, x = .ref a ∧ SqT K H a xs ∧
  (HT.sIx xs.length 0 lo = 0 ∧ HT.sIx xs.length xs.length hi = xs.length → Q (.ref a) H) ∧ (¬ (HT.sIx xs.length 0 lo = 0 ∧ HT.sIx xs.length xs.length hi = xs.length) → ∀ p H', H p = none → Same H H' → PlT H' p (cutV xs lo hi) → Q (.ref p) H')
theorem sl_tupP : SlR X (rSlP X.K) := by
  intro pins s σ H x v vl vu lo hi sl Q I rx hs pl pu h
  obtain ⟨a, xs, rfl, hx, q1, q2⟩ := h
  cases rx
  obtain ⟨its, r, ht, hz⟩ := I.tuple hx
  have hlen : its.toArray.size = xs.length := by rw [List.size_toArray]; exact r.length.symm
  refine ⟨"tuple", _, PyProof.Rows.slot_tuple_getitem.lookup, ht.typeIs, ?_⟩
  by_cases hw : HT.sIx xs.length 0 lo = 0 ∧ HT.sIx xs.length xs.length hi = xs.length
  · exact getItem_tuple_whole ht hs pl pu (by rw [hlen]; exact hw) ⟨.ref a, H, I, rfl, q1 hw⟩
  · refine HT.getItem_tuple_cut ht hs pl pu (by rw [hlen]; exact hw) ?_ (by rw [hlen]; exact hz)
    rw [hlen]
    have hn := I.hok.fresh (Nat.le_refl s.heap.objs.size)
    generalize ho : ({ cls := .type "tuple", data := .seq ((its.toArray.toList.drop (HT.sIx xs.length 0 lo)).take (HT.sIx xs.length xs.length hi - HT.sIx xs.length 0 lo)).toArray } : Obj) = ob
    have hd : ob.dict = none := by rw [← ho]
    have hc : ob.cls = .type "tuple" := by rw [← ho]
    have hg : (s.heap.push ob).get? s.heap.objs.size = some ob := Heap.get?_push_size _ (by rw [← ho]; rfl)
    have new : ObjOk X.prog X.w (upd H s.heap.objs.size (.frz ob (.tup (cutV xs lo hi)))) (s.heap.push ob) s.heap.objs.size (.frz ob (.tup (cutV xs lo hi))) :=
      ⟨hg, Nat.le_trans (cutV_length xs lo hi) hz, _, (r.drop (HT.sIx xs.length 0 lo)).take (HT.sIx xs.length xs.length hi - HT.sIx xs.length 0 lo), by rw [← ho]; exact IsTup.new _ _⟩
    exact ⟨.ref s.heap.objs.size, _, I.laid (t' := s.toks) (o := .frz ob (.tup (cutV xs lo hi))) (fun b o' q => Heap.get?_push_of_some _ q) (Nat.le_refl _) new, rfl, q2 hw _ _ hn (fun b x e => (upd_ne (ne_of_none e hn)).trans e) ⟨_, upd_same, hd, hc⟩⟩
end
/-- the call of a plain tuple's method -/
def tBMT (r : V → List V → Hp → VK → Prop) (to : TE) (t : TA) : TE := fun σ H Q => to σ H fun x H1 => (∃ a xs, x = .ref a ∧ PlT H1 a xs) ∧ t σ H1 fun xs H2 => r x xs H2 Q
section
variable {X : Cx} {o e : Expr} {es : List Expr} {to : TE} {t : TA} {name : Str} {apos cpos : Pos} {id : String} {r : V → List V → Hp → VK → Prop}
theorem pe_bmT (slot : Slot "tuple" name id) (hty : typeOf (.builtin id) = pure (.type "method_descriptor")) (hm : MtR X id r) (ho : PE X o to) (ha : PA X (e :: es) t)
    (hbase : attributeBase o name X.env (eval o X.env) = eval o X.env := by rfl)
    (hfew : ((backTo cpos (starEach (e :: es) X.env)).all (fun x => !x.1) && (backToKw cpos (keywordEach [] X.env)).all (fun x => x.1.isSome)
      && decide ((e :: es).length + ([] : List Keyword).length + (if ([] : List Keyword).isEmpty then 0 else 1) < 30)) = true := by rfl)
    (hline : (apos.endLine == cpos.line) = true := by rfl) (hs : starEach (e :: es) X.env = (false, eval e X.env) :: starEach es X.env := by rfl) (hplain : (backTo cpos (starEach es X.env)).any (·.1) = false := by rfl) :
    PE X (.Call (.Attribute o name apos) (e :: es) [] cpos) (tBMT r to t) := by
  refine ⟨fun pins s σ H Q I h => ?_⟩
  refine wpAny_Call_method_late hbase hfew hline rfl (thn (ho.run pins s σ H _ I h) fun v s1 ⟨x, H1, I1, r1, ⟨a, xs, ex, ob, ea, ed, ec⟩, q1⟩ => ?_)
  subst ex
  cases r1
  have hg := (I1.hok a _ ea).1
  refine ⟨"tuple", id, PySem.F.plainAttrs_tuple, slot, hty, ⟨ob, hg, ec⟩, fun b e => ?_, ?_⟩
  · cases e
    exact ⟨ob, hg, ed⟩
  have hA := ha.run cpos pins s1 σ H1 _ I1 q1
  rw [hs] at hA ⊢
  refine Calls.callWith_builtin (by show (false || (backTo cpos (starEach es X.env)).any (·.1)) = false; rw [hplain] <;> rfl) (Calls.evalArgs_plain ?_)
  exact thn hA fun us s2 ⟨vs, H2, I2, r2, q2⟩ => hm pins s2 σ H2 (.ref a) vs (.ref a) us Q I2 rfl r2 q2
end
end L2
set_option Elab.async false
set_option linter.all false
set_option maxRecDepth 100000
set_option maxHeartbeats 4000000
namespace Toy
open PySem PySem.Spec PyProof.Rows L2
/-- a new object beside a source -/
theorem fresh {H : Hp} {p q : Addr} {n : Nat} {o : HO} (hp : SrcAt H p n) (e : H q = none) : Same (del H p) (del (upd H q o) p) ∧ del (upd H q o) p q = some o ∧ SrcAt (upd H q o) p n ∧ Off p H (upd H q o) := by
  have nq := hp.ne e
  have o1 : Off p H (upd H q o) := Same.off (same_new e)
  exact ⟨off_same o1, by rw [del_ne nq, upd_same], hp.same (same_new e), o1⟩
def rowT (r : Str × Str) : PyData := .tuple [.str r.1, .str r.2]
abbrev KRow := Str × List Str
def kindT (k : KRow) : PyData := .tuple [.str k.1, .tuple (k.2.map .str)]
theorem rowD_T (r : Str × Str) : rowD (rowT r) = (nameS r.1 && nameS r.2) := rfl
theorem rowOf_T (rows : Rows2) : (rows.map rowT).map rowOf = rows := by
  rw [List.map_map]
  exact List.map_id'' (fun r => rfl) rows
theorem sortsD_rows (rows : Rows2) : sortsD (.list (rows.map rowT)) = ((decide (1 ≤ rows.length) && decide (rows.length ≤ 3)) && (rows.all (fun r => nameS r.1 && nameS r.2) && (decide (rows.map (·.1)).Nodup && mutualB rows))) := by
  show ((decide (1 ≤ (rows.map rowT).length) && decide ((rows.map rowT).length ≤ 3)) && ((rows.map rowT).all rowD && (decide (((rows.map rowT).map rowOf).map (·.1)).Nodup && mutualB ((rows.map rowT).map rowOf)))) = _
  rw [rowOf_T, List.length_map, List.all_map]
  rfl
structure GoodS (rows : Rows2) : Prop where
  ok : sortsD (.list (rows.map rowT)) = true
  ow : ∀ r ∈ rows, okw r.1 = true ∧ okw r.2 = true
theorem mutual_cons (q : Str × Str) (rows : Rows2) (x : Str) : valV ((q :: rows).map kvOf) (Sum.inr x) = if q.1 = x then some (.str q.2) else valV (rows.map kvOf) (Sum.inr x) := by
  by_cases h : q.1 = x
  · rw [if_pos h, List.map_cons, valV_pos (p := kvOf q) (congrArg Sum.inr h)]
    rfl
  · rw [if_neg h, List.map_cons, valV_neg (p := kvOf q) (fun z => h (Sum.inr.inj z))]
theorem good_of {rows : Rows2} (h1 : 1 ≤ rows.length) (h3 : rows.length ≤ 3) (hn : ∀ r ∈ rows, (nameS r.1 = true ∧ okw r.1 = true) ∧ (nameS r.2 = true ∧ okw r.2 = true)) (hd : (rows.map (·.1)).Nodup) (hm : mutualB rows = true) : GoodS rows := by
  refine ⟨?_, fun r hr => ⟨(hn r hr).1.2, (hn r hr).2.2⟩⟩
  rw [sortsD_rows, decide_eq_true h1, decide_eq_true h3, decide_eq_true hd, hm]
  have e : (rows.all fun r => nameS r.1 && nameS r.2) = true := List.all_eq_true.mpr fun r hr => by
    rw [(hn r hr).1.1, (hn r hr).2.1]
    rfl
  rw [e]
  rfl
theorem names3 {xs : List Str} (h : xs.length = 3) : ∃ a b c, xs = [a, b, c] := by
  match xs, h with
  | [a, b, c], _ => exact ⟨a, b, c, rfl⟩
def wayR (a b c : Str) : Nat → Rows2
  | 0 => [(a, a)]
  | 1 => [(a, b), (b, a)]
  | 2 => [(a, a), (b, c), (c, b)]
  | 3 => [(a, a), (b, b)]
  | _ => [(a, a)]
theorem way_good {a b c : Str} (h : Names [a, b, c]) (way : Nat) : GoodS (wayR a b c way) ∧ GoodS (wayR a b c way).reverse := by
  obtain ⟨nd, nm⟩ := h
  have ha := nm a (by simp)
  have hb := nm b (by simp)
  have hc := nm c (by simp)
  have nd2 : a ≠ b ∧ a ≠ c ∧ b ≠ c := by
    simp only [List.nodup_cons, List.mem_cons, List.not_mem_nil, or_false, not_or] at nd
    exact ⟨nd.1.1, nd.1.2, nd.2.1⟩
  obtain ⟨ab, ac, bc⟩ := nd2
  have g0 : GoodS [(a, a)] := good_of (by show 1 ≤ 1; decide) (by show 1 ≤ 3; decide) (by simp [ha]) (by simp) (by simp [-List.map_cons, mutualB, mutual_cons])
  match way with
  | 0 => exact ⟨g0, g0⟩
  | 1 =>
    show GoodS [(a, b), (b, a)] ∧ GoodS [(b, a), (a, b)]
    exact ⟨good_of (by show 1 ≤ 2; decide) (by show 2 ≤ 3; decide) (by simp [ha, hb]) (by simp [ab]) (by simp [-List.map_cons, mutualB, mutual_cons, ab, ab.symm]), good_of (by show 1 ≤ 2; decide) (by show 2 ≤ 3; decide) (by simp [ha, hb]) (by simp [ab.symm]) (by simp [-List.map_cons, mutualB, mutual_cons, ab, ab.symm])⟩
  | 2 =>
    show GoodS [(a, a), (b, c), (c, b)] ∧ GoodS [(c, b), (b, c), (a, a)]
    exact ⟨good_of (by show 1 ≤ 3; decide) (by show 3 ≤ 3; decide) (by simp [ha, hb, hc]) (by simp [ab, ac, bc]) (by simp [-List.map_cons, mutualB, mutual_cons, ab, ab.symm, ac, ac.symm, bc, bc.symm]), good_of (by show 1 ≤ 3; decide) (by show 3 ≤ 3; decide) (by simp [ha, hb, hc]) (by simp [ab.symm, ac.symm, bc.symm]) (by simp [-List.map_cons, mutualB, mutual_cons, ab, ab.symm, ac, ac.symm, bc, bc.symm])⟩
  | 3 =>
    show GoodS [(a, a), (b, b)] ∧ GoodS [(b, b), (a, a)]
    exact ⟨good_of (by show 1 ≤ 2; decide) (by show 2 ≤ 3; decide) (by simp [ha, hb]) (by simp [ab]) (by simp [-List.map_cons, mutualB, mutual_cons, ab, ab.symm]), good_of (by show 1 ≤ 2; decide) (by show 2 ≤ 3; decide) (by simp [ha, hb]) (by simp [ab.symm]) (by simp [-List.map_cons, mutualB, mutual_cons, ab, ab.symm])⟩
  | n + 4 => exact ⟨g0, g0⟩
/-! ### kinds -/
structure GoodK (keys : List Str) (ks : List KRow) : Prop where
  nd : (ks.map (·.1)).Nodup
  nm : ∀ k ∈ ks, nameS k.1 = true
  en : ∀ k ∈ ks, 1 ≤ k.2.length ∧ k.2.length ≤ 5 ∧ (∀ x ∈ k.2, nameS x = true ∧ x ∈ keys) ∧ sortedS k.2 = true
theorem strO_map (xs : List Str) : (xs.map PyData.str).map strO = xs := by
  rw [List.map_map]
  exact List.map_id'' (fun r => rfl) xs
theorem endsD_strs (keys xs : List Str) : endsD keys (.tuple (xs.map .str)) = ((decide (1 ≤ xs.length) && decide (xs.length ≤ 5)) && ((xs.all fun x => nameS x && decide (x ∈ keys)) && sortedS xs)) := by
  show ((decide (1 ≤ (xs.map PyData.str).length) && decide ((xs.map PyData.str).length ≤ 5)) && (((xs.map PyData.str).all fun d => nameD d && decide (strO d ∈ keys)) && sortedS ((xs.map PyData.str).map strO))) = _
  rw [strO_map, List.length_map, List.all_map]
  rfl
theorem GoodK.kind {keys : List Str} {ks : List KRow} (g : GoodK keys ks) {k : KRow} (hk : k ∈ ks) : kindD keys (kindT k) = true := by
  show (nameS k.1 && endsD keys (.tuple (k.2.map .str))) = true
  obtain ⟨h1, h5, h2, h3⟩ := g.en k hk
  rw [g.nm k hk, endsD_strs, decide_eq_true h1, decide_eq_true h5, h3]
  have e : (k.2.all fun x => nameS x && decide (x ∈ keys)) = true := List.all_eq_true.mpr fun x hx => by
    rw [(h2 x hx).1, decide_eq_true (h2 x hx).2]
    rfl
  rw [e]
  rfl
theorem GoodK.ok {keys : List Str} {ks : List KRow} (g : GoodK keys ks) (h1 : 1 ≤ ks.length) (h4 : ks.length ≤ 4) : kindsD keys (.list (ks.map kindT)) = true := by
  show ((decide (1 ≤ (ks.map kindT).length) && decide ((ks.map kindT).length ≤ 4)) && (((ks.map kindT).all (kindD keys)) && decide ((ks.map kindT).map name0).Nodup)) = true
  have e0 : (ks.map kindT).map name0 = ks.map (·.1) := by
    rw [List.map_map]
    rfl
  have e : (ks.map kindT).all (kindD keys) = true := List.all_eq_true.mpr fun d hd => by
    obtain ⟨k, hk, rfl⟩ := List.mem_map.mp hd
    exact g.kind hk
  rw [e0, e, decide_eq_true g.nd, List.length_map, decide_eq_true h1, decide_eq_true h4]
  rfl
/-- a kind's row, its ends a plain tuple -/
def KndP (H : Hp) (v : V) (k : KRow) : Prop := ∃ q t, v = .ref q ∧ TupAt H q [.str k.1, .ref t] ∧ PlT H t (k.2.map V.str)
theorem KndP.same {H H' : Hp} {v : V} {k : KRow} (h : KndP H v k) (s : Same H H') : KndP H' v k := let ⟨q, t, e, a, b⟩ := h; ⟨q, t, e, a.same s, b.same s⟩
theorem knds_same {H H' : Hp} (s : Same H H') {vs : List V} {ks : List KRow} (h : Paired (KndP H) vs ks) : Paired (KndP H') vs ks := L2.Paired.mapP h fun _ _ q => q.same s
def spStock : Sp := fun vs H Q _ => ∃ (p : Addr) (n m0 : Nat), vs = [.ref p, .int (m0 : Int)] ∧ SrcAt H p n ∧ n ≤ 5000 ∧ 1 ≤ m0 ∧ m0 ≤ 5 ∧
  ∀ (t ls lk : Addr) (rows : Rows2) (ks : List KRow) (H' : Hp), GoodS rows → GoodK (rows.map (·.1)) ks → 1 ≤ ks.length → ks.length ≤ 4 → (∀ k ∈ ks, okw k.1 = true) → (∃ vs, del H' p lk = some (.lst vs) ∧ Paired (KndP (del H' p)) vs ks) → del H' p t = some (.tup [.ref ls, .ref lk]) → Dt (del H' p) (.ref ls) (.list (rows.map rowT)) → Dt (del H' p) (.ref lk) (.list (ks.map kindT)) →
    SrcAt H' p (n + 400) → Off p H H' → Q (.ref t) H'
/-- len, of a list or a tuple -/
def rLen (K : PySem.W.Frag) : List V → Hp → VK → Prop := fun xs H Q => ∃ p ys, xs = [.ref p] ∧ (SqL K H p ys ∨ SqT K H p ys) ∧ Q (.int ys.length) H
theorem okS_name {x : Str} (h : nameS x = true) : okS x := by
  unfold nameS at h
  rw [Bool.and_eq_true, Bool.and_eq_true, decide_eq_true_eq, decide_eq_true_eq, List.all_eq_true] at h
  refine ⟨by omega, ?_⟩
  show (x.cps.all (· < 0x110000)) = true
  rw [← Array.all_toList, List.all_eq_true]
  intro c hc
  have q := h.2 c hc
  have small : ∀ c ∈ LET.cps.toList, decide (c < 0x110000) = true := by decide +kernel
  exact small c (of_decide_eq_true q)
theorem dt_row {H : Hp} {t : Addr} {x y : Str} (hx : nameS x = true) (hy : nameS y = true) (e : H t = some (.tup [.str x, .str y])) : Dt H (.ref t) (rowT (x, y)) := .tup (.of e) (by show 2 ≤ 1000; decide) (.cons (.str x (okS_name hx)) (.cons (.str y (okS_name hy)) .nil))
abbrev del2 (H : Hp) (p l : Addr) : Hp := del (del H p) l
theorem same_del {H H' : Hp} {l : Addr} (s : Same H H') : Same (del H l) (del H' l) := fun b o e => by
  by_cases q : b = l
  · rw [q, del_same] at e
    cases e
  · rw [del_ne q] at e ⊢
    exact s b o e
theorem off2 {p l : Addr} {H H' : Hp} (h : Off p H H') : Same (del2 H p l) (del2 H' p l) := same_del (off_same h)
theorem del2_upd {p l : Addr} {H : Hp} {o : HO} : Same (del2 H p l) (del2 (upd H l o) p l) := fun b x e => by
  unfold del2 at e ⊢
  by_cases q : b = l
  · rw [q, del_same] at e
    cases e
  · rw [del_ne q] at e ⊢
    by_cases q2 : b = p
    · rw [q2, del_same] at e
      cases e
    · rw [del_ne q2] at e ⊢
      rw [upd_ne q]
      exact e
theorem Off.upd0 {p q : Addr} {H H1 : Hp} {o : HO} (a : Off p H H1) (n : H q = none) : Off p H (L2.upd H1 q o) := fun b x e nb => by
  have nq : b ≠ q := fun z => by
    rw [z, n] at e
    cases e
  rw [upd_ne nq]
  exact a b x e nb
theorem SrcAt.upd {p q : Addr} {H : Hp} {o : HO} {n : Nat} (h : SrcAt H p n) (nq : q ≠ p) : SrcAt (L2.upd H q o) p n := by
  obtain ⟨x, y, z, e, r⟩ := h
  exact ⟨x, y, z, by rw [upd_ne nq.symm]; exact e, r⟩
def GoodE (keys : List Str) (k : KRow) : Prop := 1 ≤ k.2.length ∧ k.2.length ≤ 5 ∧ (∀ x ∈ k.2, nameS x = true ∧ x ∈ keys) ∧ sortedS k.2 = true
theorem row_mem {H : Hp} {xs : List V} {rows : Rows2} (r : DtAll H xs (rows.map rowT)) {x : V} (h : x ∈ xs) : ∃ q r, r ∈ rows ∧ x = .ref q ∧ TupAt H q [.str r.1, .str r.2] := by
  obtain ⟨i, hi⟩ := List.mem_iff_getElem?.mp h
  obtain ⟨d, hd, hx⟩ := r.at_ hi
  rw [List.getElem?_map] at hd
  cases e : rows[i]? with
  | none =>
    rw [e] at hd
    cases hd
  | some r =>
    rw [e] at hd
    cases hd
    cases hx with
    | tup e1 _ l =>
      cases l with
      | cons h1 l =>
        cases l with
        | cons h2 l =>
          cases l
          cases h1
          cases h2
          exact ⟨_, r, List.mem_of_getElem? e, rfl, e1⟩
theorem good_rows {rows : Rows2} (g : GoodS rows) : 1 ≤ rows.length ∧ rows.length ≤ 3 ∧ (∀ r ∈ rows, nameS r.1 = true ∧ nameS r.2 = true) ∧ (rows.map (·.1)).Nodup ∧ mutualB rows = true := by
  have h := g.ok
  rw [sortsD_rows, Bool.and_eq_true, Bool.and_eq_true, Bool.and_eq_true, Bool.and_eq_true, decide_eq_true_eq, decide_eq_true_eq, decide_eq_true_eq, List.all_eq_true] at h
  refine ⟨h.1.1, h.1.2, fun r hr => ?_, h.2.2.1, h.2.2.2⟩
  have q := h.2.1 r hr
  rw [Bool.and_eq_true] at q
  exact q
theorem dt_strs {H : Hp} {t : Addr} {ys : List Str} (e : TupAt H t (ys.map V.str)) (hl : ys.length ≤ 1000) (h : ∀ x ∈ ys, nameS x = true) : Dt H (.ref t) (.tuple (ys.map .str)) := .tup e (by rw [List.length_map]; exact hl) (DtAll.strs ys fun x hx => okS_name (h x hx))
theorem TupAt.ne {H : Hp} {a b : Addr} {xs : List V} (h : TupAt H a xs) (n : H b = none) : a ≠ b := h.rd.elim (fun e => ne_of_none e n) fun ⟨_, e⟩ => ne_of_none e n
theorem TupAt.off {p a : Addr} {H H' : Hp} {xs : List V} (h : TupAt H a xs) (o : Off p H H') (n : a ≠ p) : TupAt H' a xs := ⟨h.rd.elim (fun e => .inl (o _ _ e n)) fun ⟨u, e⟩ => .inr ⟨u, o _ _ e n⟩⟩
theorem del2_new {p u : Addr} {H : Hp} {o : HO} (n : H u = none) (nup : u ≠ p) : Same (del H p) (del2 (upd H u o) p u) := fun q x e => by
  have nq : q ≠ u := fun z => by
    rw [z, del_ne nup, n] at e
    cases e
  have nqp : q ≠ p := fun z => by
    rw [z, del_same] at e
    cases e
  unfold del2
  rw [del_ne nq, del_ne nqp, upd_ne nq]
  rw [del_ne nqp] at e
  exact e
theorem fresh2 {H : Hp} {p q u : Addr} {n : Nat} {o o' : HO} (hp : SrcAt H p n) (hu : H u = some o') (e : H q = none) : Same (del2 H p u) (del2 (upd H q o) p u) ∧ del2 (upd H q o) p u q = some o ∧ SrcAt (upd H q o) p n ∧ upd H q o u = some o' ∧ Off p H (upd H q o) := by
  have nq := hp.ne e
  have nu := (ne_of_none hu e).symm
  have o1 : Off p H (upd H q o) := Same.off (same_new e)
  refine ⟨off2 o1, ?_, hp.same (same_new e), same_new e _ _ hu, o1⟩
  unfold del2
  rw [del_ne nu, del_ne nq, upd_same]
section
variable {P : Program} {w : World} {K : PySem.W.Frag} {mg : Str → Option Value} {base : Heap}
abbrev stN : List Str := ["_law_source", "_law_most", "_law_names_here", "_law_way", "_law_one_here", "_law_two", "_law_three", "_law_sorts", "_law_kinds", "_law_name", "_law_ends_here", "_law_k"]
theorem scStock : FnScope stN ["_law_source", "_law_most"] (defScope sStock) := ⟨rfl, rfl, rfl, by decide +kernel, rfl, by decide +kernel, by decide +kernel⟩
theorem ok_stock {f fN fO fM : Addr} {fd fdN fdO fdM : FuncData} (F : Fun K "_law_stock" "_law_stock" sStock f fd) (M : Mods mg)
    (GN : FnOk P w K mg base CX0 1 fN fdN ["_law_source", "_law_many"] spNext) (kN : PySem.W.keepIn K (.ref fN) = true) (bN : Binds K fdN ["_law_source", "_law_many"] []) (gN : mg "_law_next" = some (.ref fN))
    (GO : FnOk P w K mg base CX0 2 fO fdO ["_law_source", "_law_some"] spOne) (kO : PySem.W.keepIn K (.ref fO) = true) (bO : Binds K fdO ["_law_source", "_law_some"] []) (gO : mg "_law_one" = some (.ref fO))
    (GM : FnOk P w K mg base CX0 3 fM fdM ["_law_source", "_law_many"] spNames) (kM : PySem.W.keepIn K (.ref fM) = true) (bM : Binds K fdM ["_law_source", "_law_many"] []) (gM : mg "_law_names" = some (.ref fM)) (mR : mg "range" = none) :
    FnOk P w K mg base CX0 4 f fd ["_law_source", "_law_most"] spStock := by
  refine F.ok scStock (fun vs H Q E h => ?_) (fun cdv A outer s H vs Q E hr h => ?_)
  · obtain ⟨p, n, m0, rfl, _⟩ := h
    rfl
  · obtain ⟨p, n, m0, rfl, hp, hn, hm1, hm5, k⟩ := h
    have hr2 : Room 2 (A.deeper (envOfC "_law_stock" (defScope sStock) s.heap.objs.size f cdv)) := hr.mono (by decide)
    have hr1 : Room 1 (A.deeper (envOfC "_law_stock" (defScope sStock) s.heap.objs.size f cdv)) := hr.mono (by decide)
    refine ⟨_, (pss_cons (ps_set (i := 2) scStock.nd rfl (Or.inl rfl) (pe_call GM hr (by rfl) gM kM bM .nil pass0 (pa_cons (pv 0) (pa_cons pe_int pa_nil))))
      (pss_cons (ps_set (i := 3) scStock.nd rfl (Or.inl rfl) (pe_call GN hr1 (by rfl) gN kN bN .nil pass0 (pa_cons (pv 0) (pa_cons pe_int pa_nil))))
      (pss_cons (ps_asg (pv 2) (pg_lst rfl (pgs_cons (pg_name (i := 4) scStock.nd rfl (Or.inl rfl)) (pgs_cons (pg_name (i := 5) scStock.nd rfl (Or.inl rfl)) (pgs_cons (pg_name (i := 6) scStock.nd rfl (Or.inl rfl)) pgs_nil)))))
      (pss_cons (ps_set (i := 7) scStock.nd rfl (Or.inr rfl) (pe_lst (pa_cons (pe_lst (pa_cons (pe_tup (pa_cons (pv 4) (pa_cons (pv 4) pa_nil))) pa_nil)) (pa_cons (pe_lst (pa_cons (pe_tup (pa_cons (pv 4) (pa_cons (pv 5) pa_nil))) (pa_cons (pe_tup (pa_cons (pv 5) (pa_cons (pv 4) pa_nil))) pa_nil))) (pa_cons (pe_lst (pa_cons (pe_tup (pa_cons (pv 4) (pa_cons (pv 4) pa_nil))) (pa_cons (pe_tup (pa_cons (pv 5) (pa_cons (pv 6) pa_nil))) (pa_cons (pe_tup (pa_cons (pv 6) (pa_cons (pv 5) pa_nil))) pa_nil)))) (pa_cons (pe_lst (pa_cons (pe_tup (pa_cons (pv 4) (pa_cons (pv 4) pa_nil))) (pa_cons (pe_tup (pa_cons (pv 5) (pa_cons (pv 5) pa_nil))) pa_nil))) pa_nil))))))
      (pss_cons (ps_set (i := 7) scStock.nd rfl (Or.inr rfl) (pe_ix ix_list (pe_op op_cat (pv 7) (pe_slice sl_list (pv 7) po_none (po_some pe_int))) (pv 3) (fun _ _ => rfl)))
      (pss_cons (ps_if (pt_cmpR op_eq (pe_call GN hr1 (by rfl) gN kN bN .nil pass0 (pa_cons (pv 0) (pa_cons pe_int pa_nil))) pe_int (nomark _)) (pss_one (ps_set (i := 7) scStock.nd rfl (Or.inr rfl) (pe_revL (pv 7)))) pss_nil)
      (pss_cons (ps_set (i := 8) scStock.nd rfl (Or.inl rfl) (pe_lst pa_nil))
      (pss_cons (ps_for PassesOwn.never rfl (pi_list (pe_call GM hr (by rfl) gM kM bM .nil pass0 (pa_cons (pv 0) (pa_cons (pe_op op_add pe_int (pe_call GN hr1 (by rfl) gN kN bN .nil pass0 (pa_cons (pv 0) (pa_cons pe_int pa_nil)))) pa_nil)))) (pg_name (i := 9) scStock.nd rfl (Or.inl rfl)) (pss_cons (ps_setLc (i := 10) (own := [("_law_k", 11)]) (g := gName 11) (tt := tYes) (te := (tOp (rIxT K) (tCall spOne [] E0 (tCons (tVar 0) (tCons (tVar 7) tNil))) (tC (.int 0)))) rfl scStock.nd rfl rfl (sw_true rfl rfl rfl (by decide +kernel)) (pi_range1 (by rfl) mR (pa_cons (pe_call GO hr2 (by rfl) gO kO bO .nil pass0 (pa_cons (pv 0) (pa_cons (pe_lst (pa_cons (pe_op op_add pe_int (pe_call GN hr1 (by rfl) gN kN bN .nil pass0 (pa_cons (pv 0) (pa_cons (pv 1) pa_nil)))) (pa_cons (pv 1) (pa_cons pe_int pa_nil)))) pa_nil))) pa_nil)) (blkOk_by (N := stN) (sc := defScope sStock) (by decide +kernel)) (fun _ _ _ _ _ => pg_name (i := 11) scStock.nd rfl (Or.inl rfl)) (fun _ _ _ _ _ => pts_nil) (fun _ _ _ _ _ => (by exact (pe_ix ix_tup (pe_call GO hr2 (by rfl) gO kO bO .nil pass0 (pa_cons (pv 0) (pa_cons (pv 7) pa_nil))) pe_int (fun _ _ => rfl)))))
      (pss_one (ps_expr (pe_bm PySem.F.plainAttrs_list PySem.F.slot_list_append PySem.F.type_list_append mt_append (pv 8) (pa_cons (pe_tup (pa_cons (pv 9) (pa_cons (pe_callTy call_tuple_ofP (by rfl) M.tup_ (by decide +kernel) (pa_cons (pe_callB cr_sortedS (by rfl) M.srt (by decide +kernel) (pa_cons (pv 10) pa_nil)) pa_nil)) pa_nil))) pa_nil))))))
      (pss_one (ps_ret (pe_tup (pa_cons (pv 7) (pa_cons (pv 8) pa_nil))))))))))))), ?_⟩
    refine ⟨_, rfl, p, 3, n, rfl, hp, by omega, by decide, fun l0 nms H1 l3 hnm l00 hl0 hp1 o1 => ?_⟩
    obtain ⟨a, b, c, rfl⟩ := names3 l3
    refine ⟨_, rfl, p, 5, n + 100, rfl, hp1, by decide, by decide, by omega, fun r H2 r0 r1 hp2 o2 => ?_⟩
    obtain ⟨way, rfl⟩ := Int.eq_ofNat_of_zero_le r0
    have nl0p : l0 ≠ p := hp.ne l00
    have hl02 := o2 _ _ hl0 nl0p
    refine ⟨_, rfl, l0, _, rfl, SqL.of hl02, rfl, _, _, rfl, _, _, rfl, _, _, rfl, rfl, ?_⟩
    have oA := o1.trans o2
    have ha := (hnm.nm a (by simp)).1
    have hb := (hnm.nm b (by simp)).1
    have hc := (hnm.nm c (by simp)).1
    refine ⟨_, rfl, _, rfl, by show 2 ≤ sizeLine; decide, fun t00 nt00 => ?_⟩
    obtain ⟨st00, dt00, pt00, ft00⟩ := fresh (o := .tup [.str a, .str a]) hp2 nt00
    have gt00 : upd H2 t00 (.tup [.str a, .str a]) t00 = some (.tup [.str a, .str a]) := upd_same
    have xt00 := same_new (o := .tup [.str a, .str a]) nt00
    have ot00 := oA.trans ft00
    generalize upd H2 t00 (.tup [.str a, .str a]) = Gt00 at st00 dt00 pt00 ft00 gt00 xt00 ot00 ⊢
    refine ⟨by show 1 ≤ sizeLine; decide, fun w0 nw0 => ?_⟩
    obtain ⟨sw0, dw0, pw0, fw0⟩ := fresh (o := .lst [.ref t00]) pt00 nw0
    have gw0 : upd Gt00 w0 (.lst [.ref t00]) w0 = some (.lst [.ref t00]) := upd_same
    have xw0 := same_new (o := .lst [.ref t00]) nw0
    have ow0 := ot00.trans fw0
    generalize upd Gt00 w0 (.lst [.ref t00]) = Gw0 at sw0 dw0 pw0 fw0 gw0 xw0 ow0 ⊢
    have W0 : Dt (del Gw0 p) (.ref w0) (.list ((wayR a b c 0).map rowT)) := .lst dw0 (by show 1 ≤ 1000; decide) (.cons (dt_row ha ha (sw0 _ _ dt00)) .nil)
    refine ⟨_, rfl, _, rfl, by show 2 ≤ sizeLine; decide, fun t10 nt10 => ?_⟩
    obtain ⟨st10, dt10, pt10, ft10⟩ := fresh (o := .tup [.str a, .str b]) pw0 nt10
    have gt10 : upd Gw0 t10 (.tup [.str a, .str b]) t10 = some (.tup [.str a, .str b]) := upd_same
    have xt10 := same_new (o := .tup [.str a, .str b]) nt10
    have ot10 := ow0.trans ft10
    generalize upd Gw0 t10 (.tup [.str a, .str b]) = Gt10 at st10 dt10 pt10 ft10 gt10 xt10 ot10 ⊢
    refine ⟨_, rfl, _, rfl, by show 2 ≤ sizeLine; decide, fun t11 nt11 => ?_⟩
    obtain ⟨st11, dt11, pt11, ft11⟩ := fresh (o := .tup [.str b, .str a]) pt10 nt11
    have gt11 : upd Gt10 t11 (.tup [.str b, .str a]) t11 = some (.tup [.str b, .str a]) := upd_same
    have xt11 := same_new (o := .tup [.str b, .str a]) nt11
    have ot11 := ot10.trans ft11
    generalize upd Gt10 t11 (.tup [.str b, .str a]) = Gt11 at st11 dt11 pt11 ft11 gt11 xt11 ot11 ⊢
    refine ⟨by show 2 ≤ sizeLine; decide, fun w1 nw1 => ?_⟩
    obtain ⟨sw1, dw1, pw1, fw1⟩ := fresh (o := .lst [.ref t10, .ref t11]) pt11 nw1
    have gw1 : upd Gt11 w1 (.lst [.ref t10, .ref t11]) w1 = some (.lst [.ref t10, .ref t11]) := upd_same
    have xw1 := same_new (o := .lst [.ref t10, .ref t11]) nw1
    have ow1 := ot11.trans fw1
    generalize upd Gt11 w1 (.lst [.ref t10, .ref t11]) = Gw1 at sw1 dw1 pw1 fw1 gw1 xw1 ow1 ⊢
    have W1 : Dt (del Gw1 p) (.ref w1) (.list ((wayR a b c 1).map rowT)) := .lst dw1 (by show 2 ≤ 1000; decide) (.cons (dt_row ha hb ((st11.trans sw1) _ _ dt10)) (.cons (dt_row hb ha (sw1 _ _ dt11)) .nil))
    refine ⟨_, rfl, _, rfl, by show 2 ≤ sizeLine; decide, fun t20 nt20 => ?_⟩
    obtain ⟨st20, dt20, pt20, ft20⟩ := fresh (o := .tup [.str a, .str a]) pw1 nt20
    have gt20 : upd Gw1 t20 (.tup [.str a, .str a]) t20 = some (.tup [.str a, .str a]) := upd_same
    have xt20 := same_new (o := .tup [.str a, .str a]) nt20
    have ot20 := ow1.trans ft20
    generalize upd Gw1 t20 (.tup [.str a, .str a]) = Gt20 at st20 dt20 pt20 ft20 gt20 xt20 ot20 ⊢
    refine ⟨_, rfl, _, rfl, by show 2 ≤ sizeLine; decide, fun t21 nt21 => ?_⟩
    obtain ⟨st21, dt21, pt21, ft21⟩ := fresh (o := .tup [.str b, .str c]) pt20 nt21
    have gt21 : upd Gt20 t21 (.tup [.str b, .str c]) t21 = some (.tup [.str b, .str c]) := upd_same
    have xt21 := same_new (o := .tup [.str b, .str c]) nt21
    have ot21 := ot20.trans ft21
    generalize upd Gt20 t21 (.tup [.str b, .str c]) = Gt21 at st21 dt21 pt21 ft21 gt21 xt21 ot21 ⊢
    refine ⟨_, rfl, _, rfl, by show 2 ≤ sizeLine; decide, fun t22 nt22 => ?_⟩
    obtain ⟨st22, dt22, pt22, ft22⟩ := fresh (o := .tup [.str c, .str b]) pt21 nt22
    have gt22 : upd Gt21 t22 (.tup [.str c, .str b]) t22 = some (.tup [.str c, .str b]) := upd_same
    have xt22 := same_new (o := .tup [.str c, .str b]) nt22
    have ot22 := ot21.trans ft22
    generalize upd Gt21 t22 (.tup [.str c, .str b]) = Gt22 at st22 dt22 pt22 ft22 gt22 xt22 ot22 ⊢
    refine ⟨by show 3 ≤ sizeLine; decide, fun w2 nw2 => ?_⟩
    obtain ⟨sw2, dw2, pw2, fw2⟩ := fresh (o := .lst [.ref t20, .ref t21, .ref t22]) pt22 nw2
    have gw2 : upd Gt22 w2 (.lst [.ref t20, .ref t21, .ref t22]) w2 = some (.lst [.ref t20, .ref t21, .ref t22]) := upd_same
    have xw2 := same_new (o := .lst [.ref t20, .ref t21, .ref t22]) nw2
    have ow2 := ot22.trans fw2
    generalize upd Gt22 w2 (.lst [.ref t20, .ref t21, .ref t22]) = Gw2 at sw2 dw2 pw2 fw2 gw2 xw2 ow2 ⊢
    have W2 : Dt (del Gw2 p) (.ref w2) (.list ((wayR a b c 2).map rowT)) := .lst dw2 (by show 3 ≤ 1000; decide) (.cons (dt_row ha ha (((st21.trans st22).trans sw2) _ _ dt20)) (.cons (dt_row hb hc ((st22.trans sw2) _ _ dt21)) (.cons (dt_row hc hb (sw2 _ _ dt22)) .nil)))
    refine ⟨_, rfl, _, rfl, by show 2 ≤ sizeLine; decide, fun t30 nt30 => ?_⟩
    obtain ⟨st30, dt30, pt30, ft30⟩ := fresh (o := .tup [.str a, .str a]) pw2 nt30
    have gt30 : upd Gw2 t30 (.tup [.str a, .str a]) t30 = some (.tup [.str a, .str a]) := upd_same
    have xt30 := same_new (o := .tup [.str a, .str a]) nt30
    have ot30 := ow2.trans ft30
    generalize upd Gw2 t30 (.tup [.str a, .str a]) = Gt30 at st30 dt30 pt30 ft30 gt30 xt30 ot30 ⊢
    refine ⟨_, rfl, _, rfl, by show 2 ≤ sizeLine; decide, fun t31 nt31 => ?_⟩
    obtain ⟨st31, dt31, pt31, ft31⟩ := fresh (o := .tup [.str b, .str b]) pt30 nt31
    have gt31 : upd Gt30 t31 (.tup [.str b, .str b]) t31 = some (.tup [.str b, .str b]) := upd_same
    have xt31 := same_new (o := .tup [.str b, .str b]) nt31
    have ot31 := ot30.trans ft31
    generalize upd Gt30 t31 (.tup [.str b, .str b]) = Gt31 at st31 dt31 pt31 ft31 gt31 xt31 ot31 ⊢
    refine ⟨by show 2 ≤ sizeLine; decide, fun w3 nw3 => ?_⟩
    obtain ⟨sw3, dw3, pw3, fw3⟩ := fresh (o := .lst [.ref t30, .ref t31]) pt31 nw3
    have gw3 : upd Gt31 w3 (.lst [.ref t30, .ref t31]) w3 = some (.lst [.ref t30, .ref t31]) := upd_same
    have xw3 := same_new (o := .lst [.ref t30, .ref t31]) nw3
    have ow3 := ot31.trans fw3
    generalize upd Gt31 w3 (.lst [.ref t30, .ref t31]) = Gw3 at sw3 dw3 pw3 fw3 gw3 xw3 ow3 ⊢
    have W3 : Dt (del Gw3 p) (.ref w3) (.list ((wayR a b c 3).map rowT)) := .lst dw3 (by show 2 ≤ 1000; decide) (.cons (dt_row ha ha ((st31.trans sw3) _ _ dt30)) (.cons (dt_row hb hb (sw3 _ _ dt31)) .nil))
    refine ⟨by show 4 ≤ sizeLine; decide, fun u nu => ?_⟩
    obtain ⟨su, du, pu, fu⟩ := fresh (o := .lst [.ref w0, .ref w1, .ref w2, .ref w3]) pw3 nu
    have gu : upd Gw3 u (.lst [.ref w0, .ref w1, .ref w2, .ref w3]) u = some (.lst [.ref w0, .ref w1, .ref w2, .ref w3]) := upd_same
    have xu := same_new (o := .lst [.ref w0, .ref w1, .ref w2, .ref w3]) nu
    have ou := ow3.trans fu
    generalize upd Gw3 u (.lst [.ref w0, .ref w1, .ref w2, .ref w3]) = Gu at su du pu fu gu xu ou ⊢
    refine ⟨_, rfl, _, rfl, 1, rfl, u, _, rfl, SqL.of gu, fun u2 nu2 => ?_⟩
    obtain ⟨su2, du2, pu2, fu2⟩ := fresh (o := .lst (cutV [.ref w0, .ref w1, .ref w2, .ref w3] none (some 1))) pu nu2
    have gu2 : upd Gu u2 (.lst (cutV [.ref w0, .ref w1, .ref w2, .ref w3] none (some 1))) u2 = some (.lst (cutV [.ref w0, .ref w1, .ref w2, .ref w3] none (some 1))) := upd_same
    have xu2 := same_new (o := .lst (cutV [.ref w0, .ref w1, .ref w2, .ref w3] none (some 1))) nu2
    have ou2 := ou.trans fu2
    generalize upd Gu u2 (.lst (cutV [.ref w0, .ref w1, .ref w2, .ref w3] none (some 1))) = Gu2 at su2 du2 pu2 fu2 gu2 xu2 ou2 ⊢
    refine ⟨u, u2, _, _, rfl, rfl, xu2 _ _ gu, gu2, by show 5 ≤ sizeLine; decide, fun u3 nu3 => ?_⟩
    obtain ⟨su3, du3, pu3, fu3⟩ := fresh (o := .lst ([.ref w0, .ref w1, .ref w2, .ref w3] ++ cutV [.ref w0, .ref w1, .ref w2, .ref w3] none (some 1))) pu2 nu3
    have gu3 : upd Gu2 u3 (.lst ([.ref w0, .ref w1, .ref w2, .ref w3] ++ cutV [.ref w0, .ref w1, .ref w2, .ref w3] none (some 1))) u3 = some (.lst ([.ref w0, .ref w1, .ref w2, .ref w3] ++ cutV [.ref w0, .ref w1, .ref w2, .ref w3] none (some 1))) := upd_same
    have xu3 := same_new (o := .lst ([.ref w0, .ref w1, .ref w2, .ref w3] ++ cutV [.ref w0, .ref w1, .ref w2, .ref w3] none (some 1))) nu3
    have ou3 := ou2.trans fu3
    generalize upd Gu2 u3 (.lst ([.ref w0, .ref w1, .ref w2, .ref w3] ++ cutV [.ref w0, .ref w1, .ref w2, .ref w3] none (some 1))) = Gu3 at su3 du3 pu3 fu3 gu3 xu3 ou3 ⊢
    have Y0 := W0.same ((((((((((((st10.trans st11).trans sw1).trans st20).trans st21).trans st22).trans sw2).trans st30).trans st31).trans sw3).trans su).trans su2).trans su3)
    have Y1 := W1.same (((((((((st20.trans st21).trans st22).trans sw2).trans st30).trans st31).trans sw3).trans su).trans su2).trans su3)
    have Y2 := W2.same (((((st30.trans st31).trans sw3).trans su).trans su2).trans su3)
    have Y3 := W3.same ((su.trans su2).trans su3)
    have hway : way < 5 := by omega
    obtain ⟨wx, at_, Dx⟩ : ∃ wx, ([V.ref w0, V.ref w1, V.ref w2, V.ref w3] ++ cutV [V.ref w0, V.ref w1, V.ref w2, V.ref w3] none (some 1))[way]? = some (V.ref wx) ∧ Dt (del Gu3 p) (.ref wx) (.list ((wayR a b c way).map rowT)) := by
      match way, hway with
      | 0, _ => exact ⟨w0, rfl, Y0⟩
      | 1, _ => exact ⟨w1, rfl, Y1⟩
      | 2, _ => exact ⟨w2, rfl, Y2⟩
      | 3, _ => exact ⟨w3, rfl, Y3⟩
      | 4, _ => exact ⟨w0, rfl, Y0⟩
    refine ⟨_, rfl, u3, _, _, _, rfl, rfl, SqL.of gu3, at_of rfl at_, ?_⟩
    have hwx : del Gu3 p wx = some (.lst (match way with | 0 => [.ref t00] | _ => [])) ∨ True := .inr trivial
    clear hwx
    obtain ⟨gd1, gd2⟩ := way_good (a := a) (b := b) (c := c) hnm way
    obtain ⟨xw, hwx, lwx, rwx⟩ := dt_list Dx
    refine ⟨_, rfl, p, 2, n + 101, rfl, pu3, by decide, by decide, by omega, fun r3 H3 r30 r31 hp3 o3 => ?_⟩
    have Dx3 := Dx.same (off_same o3)
    have hwx3 := off_same o3 _ _ hwx
    have oX := ou3.trans o3
    refine ⟨rfl, _, rfl, ite2 (fun _ => ?_) (fun _ => ?_)⟩
    case' refine_1 =>
      refine ⟨_, rfl, wx, xw, rfl, SqL.of (del_sub _ _ hwx3), fun lx nlx => ?_⟩
      obtain ⟨slx, dlx, hp5, flx⟩ := fresh (o := .lst xw.reverse) hp3 nlx
      have o5 := oX.trans flx
      generalize eqH : upd H3 lx (.lst xw.reverse) = H5 at slx dlx hp5 flx o5 ⊢
      have D5 : Dt (del H5 p) (.ref lx) (.list ((wayR a b c way).reverse.map rowT)) := by
        rw [List.map_reverse]
        exact .lst dlx (by rw [List.length_reverse]; exact lwx) ((rwx.same ((off_same o3).trans slx)).rev)
      generalize (wayR a b c way).reverse = rows at D5 gd2
      have gd := gd2
    case' refine_2 =>
      have hp5 := hp3
      have o5 := oX
      have D5 := Dx3
      generalize (wayR a b c way) = rows at D5 gd1
      have gd := gd1
      generalize wx = lx at D5 ⊢
      generalize H3 = H5 at hp5 o5 D5 ⊢
    all_goals
      obtain ⟨g1, g3, gN_, gnd, gmu⟩ := good_rows gd
      refine ⟨Nat.zero_le _, fun lk nlk => ?_⟩
      have nlkp := hp5.ne nlk
      have lk0 : H lk = none := o5.free hp5 nlk
      obtain ⟨sk1, dk1, hp6, fk1⟩ := fresh (o := .lst []) hp5 nlk
      have hlk6 : upd H5 lk (.lst []) lk = some (.lst []) := upd_same
      have o6 := o5.trans fk1
      have D6 : Dt (del2 (upd H5 lk (.lst [])) p lk) (.ref lx) (.list (rows.map rowT)) := by
        have e : del H5 p = del2 (upd H5 lk (.lst [])) p lk := by
          funext q
          unfold del2
          by_cases z : q = lk
          · have e0 : del H5 p lk = none := by
              rw [del_ne nlkp]
              exact nlk
            rw [z, del_same, e0]
          · rw [del_ne z]
            by_cases z2 : q = p
            · rw [z2, del_same, del_same]
            · rw [del_ne z2, del_ne z2, upd_ne z]
        rw [← e]
        exact D5
      generalize upd H5 lk (.lst []) = H6 at sk1 dk1 hp6 fk1 hlk6 o6 D6 ⊢
      refine ⟨_, rfl, _, rfl, p, _, n + 102, rfl, hp6, by decide, by decide, by omega, fun r7 H7 r70 r71 hp7 o7 => ?_⟩
      obtain ⟨a4, rfl⟩ := Int.eq_ofNat_of_zero_le r70
      refine ⟨_, _, rfl, rfl, p, 1 + a4, n + 103, rfl, hp7, by omega, by omega, fun lnm nms H8 l8 hnm8 lnm0 hlnm hp8 o8 => ?_⟩
      refine ⟨lnm, rfl, ⟨_, SqL.of hlnm⟩, ?_⟩
      have nlnmp : lnm ≠ p := hp7.ne lnm0
      have nlkl : lnm ≠ lk := fun z => by
        have q := o7 _ _ hlk6 nlkp
        rw [← z, lnm0] at q
        cases q
      have oZ := (o6.trans o7).trans o8
      have D8 := D6.same ((off2 (l := lk) o7).trans (off2 o8))
      have hlk8 := o8 _ _ (o7 _ _ hlk6 nlkp) nlkp
      refine for_it walk_list (fun i σ H' => ∃ (y9 y10 y11 : Option V) (ks : List KRow) (vs : List V), σ = [some (.ref p), some (.int (m0 : Int)), some (.ref l0), some (.int (way : Int)), some (.str a), some (.str b), some (.str c), some (.ref lx), some (.ref lk), y9, y10, y11] ∧ Off p H H' ∧ SrcAt H' p (n + 203 + 20 * i) ∧ H' lnm = some (.lst (nms.map V.str)) ∧ H' lk = some (.lst vs) ∧ Dt (del2 H' p lk) (.ref lx) (.list (rows.map rowT)) ∧ DtAll (del2 H' p lk) vs (ks.map kindT) ∧ Paired (KndP (del2 H' p lk)) vs ks ∧ ks.map (·.1) = nms.take i ∧ ∀ k ∈ ks, GoodE (rows.map (·.1)) k)
        ⟨none, none, none, [], [], rfl, oZ, hp8, hlnm, hlk8, D8, .nil, .nil, rfl, fun _ z => nomatch z⟩ (fun i σ H' hi ⟨_, _, _, _, _, _, _, _, e, _⟩ => SqL.of e) ?_ ?_
      · rintro i x σ H9 H9' hi ⟨y9, y10, y11, ks, vs, rfl, o9, hp9, hlnm9, hlk9, D9, ra9, kn9, km, hks⟩ ⟨rfl, hx⟩
        rw [List.length_map, l8] at hi
        have hnx : ∃ z, nms[i]? = some z ∧ x = .str z := by
          have q := hx
          rw [List.getElem?_map] at q
          cases e : nms[i]? with
          | none =>
            rw [e] at q
            cases q
          | some z =>
            rw [e] at q
            exact ⟨z, rfl, (Option.some.inj q).symm⟩
        obtain ⟨z, hz, rfl⟩ := hnx
        have hzn := (hnm8.nm z (List.mem_of_getElem? hz)).1
        refine ⟨_, rfl, _, rfl, _, rfl, p, (m0 : Int), n + 203 + 20 * i, rfl, hp9, by omega, by omega, by omega, fun r10 H10 r100 r101 hp10 o10 => ?_⟩
        refine ⟨_, _, rfl, rfl, _, rfl, by show 3 ≤ sizeLine; decide, fun u' nu' => ?_⟩
        have t10 := same_new (o := .lst [.int (1 + r10), .int (m0 : Int), .int 3]) nu'
        have nu'p := hp10.ne nu'
        refine ⟨p, u', _, _, rfl, hp10.same t10, by omega, upd_same, nu'p, (by show 1 ≤ 3; decide), (by show 3 ≤ 1000; decide), fun x H11 hx hp11 o11 => ?_⟩
        obtain ⟨m, rfl, m1, m5⟩ : ∃ m : Nat, x = .int (m : Int) ∧ 1 ≤ m ∧ m ≤ 5 := by
          have hx2 : x = .int (1 + r10) ∨ x = .int (m0 : Int) ∨ x = .int 3 := by simpa using hx
          rcases hx2 with rfl | rfl | rfl
          · exact ⟨(1 + r10).toNat, by rw [Int.toNat_of_nonneg (by omega)], by omega, by omega⟩
          · exact ⟨m0, rfl, hm1, hm5⟩
          · exact ⟨3, rfl, by decide, by decide⟩
        refine ⟨(m : Int), rfl, by omega, by omega, fun D nD => ?_⟩
        have em : (m : Int).toNat = m := Int.toNat_natCast m
        rw [em]
        have o911 := (o10.trans (Same.off t10)).trans o11
        have nDp := hp11.ne nD
        have D11 := D9.same (off2 (l := lk) o911)
        have ra11 := ra9.same (off2 (l := lk) o911)
        have kn11 := knds_same (off2 (l := lk) o911) kn9
        have hlk11 := o911 _ _ hlk9 nlkp
        have hlnm11 := o911 _ _ hlnm9 nlnmp
        have oH11 := o9.trans o911
        refine lc_range (lo := 0) (n := m) (fun j H' => Off p H11 H' ∧ SrcAt H' p (n + 203 + 20 * i + 2 + j) ∧ ∃ es : List Str, H' D = some (.lst (es.map V.str)) ∧ es.length = j ∧ ∀ x ∈ es, x ∈ rows.map (·.1)) ⟨Same.off (same_new nD), ((hp11.same (same_new nD)).mono (by omega)), [], upd_same, rfl, fun _ z => nomatch z⟩ ?_ ?_
        · rintro j H12 hj ⟨o12, hp12, es, hD12, le, hes⟩
          refine ⟨rfl, ?_⟩
          show tOp (rIxT K) (tCall spOne [] E0 (tCons (tVar 0) (tCons (tVar 7) tNil))) (tC (.int 0)) _ _ _
          have D12 := D11.same (off2 (l := lk) o12)
          obtain ⟨xs12, hx12, lx12, ra12⟩ := dt_list D12
          have nlxp : lx ≠ p := fun z => by
            rw [z] at hx12
            have q := del_sub _ _ hx12
            rw [del_same] at q
            cases q
          have hlx12 := del_sub _ _ (del_sub _ _ hx12)
          have lenx : xs12.length = rows.length := by rw [ra12.len, List.length_map]
          refine ⟨_, rfl, _, rfl, p, lx, xs12, _, rfl, hp12, by omega, hlx12, nlxp, by omega, by omega, fun y H13 hy hp13 o13 => ?_⟩
          obtain ⟨q, r, hr_, rfl, eq_⟩ := row_mem ra12 hy
          have nqp : q ≠ p := (eq_.same del_sub).ne del_same
          have hq13 := ((eq_.same del_sub).same del_sub).off o13 nqp
          refine ⟨q, _, 0, _, rfl, rfl, hq13.sq, ix0, ?_⟩
          have hD13 := o13 _ _ hD12 nDp
          refine ⟨_, hD13, ?_, (o12.trans o13).upd0 nD, ((hp13.upd nDp).mono (by omega)), es ++ [r.1], ?_, ?_, ?_⟩
          · rw [List.length_map]
            exact small1000 (by omega)
          · rw [upd_same, List.map_append]
            rfl
          · rw [List.length_append, le]
            rfl
          · intro x hx
            rcases List.mem_append.mp hx with h | h
            · exact hes x h
            · rw [List.mem_singleton.mp h]
              exact List.mem_map_of_mem (f := (·.1)) hr_
        · rintro H12 ⟨o12, hp12, es, hD12, le, hes⟩
          have hlk12 := o12 _ _ hlk11 nlkp
          refine ⟨_, rfl, .inl ⟨rfl, _, SqL.of hlk12⟩, _, rfl, _, rfl, D, es, rfl, SqL.of hD12, by omega, fun ys q pm so nq => ?_⟩
          have t1 := same_new (o := .lst (ys.map V.str)) nq
          have hq1 : upd H12 q (.lst (ys.map V.str)) q = some (.lst (ys.map V.str)) := upd_same
          have hpq := hp12.same t1
          have hlkq := t1 _ _ hlk12
          refine ⟨q, _, rfl, .inl ⟨SqL.of hq1, fun t Ht nt t2 plt _ => ?_⟩⟩
          have hpt := hpq.same t2
          have hlkt := t2 _ _ hlkq
          have ntp := hpq.ne nt
          have ntlk : t ≠ lk := fun z => by
            rw [← z, nt] at hlkq
            cases hlkq
          refine ⟨by show 2 ≤ sizeLine; decide, fun k nk => ?_⟩
          have t3 := same_new (o := .tup [.str z, .ref t]) nk
          have tA := (t1.trans t2).trans t3
          have lys : ys.length = m := by rw [pm.length_eq, le]
          have kys : ∀ x ∈ ys, nameS x = true ∧ x ∈ rows.map (·.1) := fun x hx => by
            have h1 := hes x (pm.mem_iff.mp hx)
            obtain ⟨r, hr_, e⟩ := List.mem_map.mp h1
            exact ⟨by rw [← e]; exact (gN_ r hr_).1, h1⟩
          have nkp := hpt.ne nk
          have hlkA := tA _ _ hlk12
          have nklk : k ≠ lk := fun z => by
            rw [← z, nk] at hlkt
            cases hlkt
          have ek : upd Ht k (.tup [.str z, .ref t]) k = some (.tup [.str z, .ref t]) := upd_same
          have et := plt.same t3
          generalize upd Ht k (.tup [.str z, .ref t]) = H13 at t3 tA hlkA ek et ⊢
          have etd : PlT (del2 H13 p lk) t (ys.map V.str) := by
            obtain ⟨o, e, d, c⟩ := et
            refine ⟨o, ?_, d, c⟩
            unfold del2
            rw [del_ne ntlk, del_ne ntp, e]
          have ekd : del2 H13 p lk k = some (.tup [.str z, .ref t]) := by
            unfold del2
            rw [del_ne nklk, del_ne nkp, ek]
          have dk : Dt (del2 H13 p lk) (.ref k) (kindT (z, ys)) :=
            .tup (xs := [.str z, .ref t]) (.of ekd) (by show 2 ≤ 1000; decide) (.cons (.str z (okS_name hzn)) (.cons (dt_strs (ys := ys) ⟨etd.rd⟩ (by omega) fun x hx => (kys x hx).1) .nil))
          have kk : KndP (del2 H13 p lk) (.ref k) (z, ys) := ⟨k, t, rfl, .of ekd, etd⟩
          have oB := (oH11.trans o12).trans (Same.off tA)
          refine ⟨lk, vs, .ref k, rfl, rfl, hlkA, ?_, ?_⟩
          · have q := congrArg List.length km
            rw [List.length_map, List.length_take] at q
            have q2 := ra9.len
            rw [List.length_map] at q2
            exact small1000 (by omega)
          · refine ⟨_, _, _, ks ++ [(z, ys)], _, rfl, oB.upd0 lk0, ((hp12.same tA).upd nlkp).mono (by omega), ?_, upd_same, ?_, ?_, ?_, ?_, ?_⟩
            · rw [upd_ne nlkl]
              exact tA _ _ (o12 _ _ hlnm11 nlnmp)
            · exact D11.same (((off2 (l := lk) o12).trans (off2 (Same.off tA))).trans del2_upd)
            · rw [List.map_append]
              exact ((ra11.same (((off2 (l := lk) o12).trans (off2 (Same.off tA))).trans del2_upd))).app (.cons (dk.same del2_upd) .nil)
            · exact (knds_same (((off2 (l := lk) o12).trans (off2 (Same.off tA))).trans del2_upd) kn11).snoc (kk.same del2_upd)
            · rw [List.map_append, km, List.take_add_one, hz]
              rfl
            · intro k' hk'
              rcases List.mem_append.mp hk' with h | h
              · exact hks k' h
              · rw [List.mem_singleton.mp h]
                exact ⟨by show 1 ≤ ys.length; omega, by show ys.length ≤ 5; omega, kys, so⟩
      · rintro σ H9 ⟨y9, y10, y11, ks, vs, rfl, o9, hp9, hlnm9, hlk9, D9, ra9, kn9, km, hks⟩
        rw [List.length_map, l8] at hp9
        rw [List.length_map, List.take_of_length_le (Nat.le_refl _)] at km
        have lks : ks.length = 1 + a4 := by
          have q := congrArg List.length km
          rw [List.length_map, l8] at q
          exact q
        have gK : GoodK (rows.map (·.1)) ks := ⟨by rw [km]; exact hnm8.nd, fun k hk => (hnm8.nm k.1 (by rw [← km]; exact List.mem_map_of_mem (f := (·.1)) hk)).1, hks⟩
        refine ⟨_, rfl, _, rfl, by show 2 ≤ sizeLine; decide, fun t nt => ?_⟩
        have t1 := same_new (o := .tup [.ref lx, .ref lk]) nt
        have ntp := hp9.ne nt
        have lvs : vs.length ≤ 1000 := by
          have q2 := ra9.len
          rw [List.length_map] at q2
          omega
        refine k t lx lk rows ks _ gd gK (by omega) (by omega) (fun k hk => (hnm8.nm k.1 (by rw [← km]; exact List.mem_map_of_mem (f := (·.1)) hk)).2) ⟨vs, by rw [del_ne nlkp]; exact t1 _ _ hlk9, knds_same (del_sub.trans (same_del t1)) kn9⟩ (by rw [del_ne ntp]; exact upd_same) ?_ ?_ ((hp9.same t1).mono (by omega)) (o9.trans (Same.off t1))
        · exact D9.same (del_sub.trans (same_del t1))
        · refine .lst (xs := vs) ?_ lvs (ra9.same (del_sub.trans (same_del t1)))
          rw [del_ne nlkp]
          exact t1 _ _ hlk9
end
end Toy
set_option Elab.async false
set_option linter.all false
set_option maxRecDepth 100000
set_option maxHeartbeats 4000000
namespace Toy
open PySem PySem.Spec PyProof.Rows L2
/-! ### numbers and legs -/
def numD : PyData → Bool
  | .int _ => true
  | _ => false
def spNumber : Sp := fun vs H Q _ => ∃ (v : V) (d : PyData), vs = [v] ∧ Dt H v d ∧ Q (.bl (numD d)) H
def legD (keys : List Str) : PyData → Bool
  | .tuple [a, b] => nameD a && (nameD b && decide (strO b ∈ keys))
  | _ => false
def spIsLeg : Sp := fun vs H Q _ => ∃ (v : V) (d : PyData) (p : Addr) (rows : Rows2), vs = [v, .ref p] ∧ Dt H v d ∧ H p = some (.dK (rows.map kvOf)) ∧ ∀ H', Same H H' → Q (.bl (legD (rows.map (·.1)) d)) H'
section
variable {P : Program} {w : World} {K : PySem.W.Frag} {mg : Str → Option Value} {base : Heap}
theorem scIsLeg : FnScope ["leg", "partners"] ["leg", "partners"] (defScope sIsLeg) := ⟨rfl, rfl, rfl, by decide +kernel, rfl, by decide +kernel, by decide +kernel⟩
theorem ok_isLeg {f fP fN : Addr} {fd fdP fdN : FuncData} (F : Fun K "_is_leg" "_is_leg" sIsLeg f fd)
    (GP : FnOk P w K mg base CX0 1 fP fdP ["thing"] spPair) (kP : PySem.W.keepIn K (.ref fP) = true) (bP : Binds K fdP ["thing"] []) (gP : mg "is_pair" = some (.ref fP))
    (GN : FnOk P w K mg base CX0 1 fN fdN ["thing"] spName) (kN : PySem.W.keepIn K (.ref fN) = true) (bN : Binds K fdN ["thing"] []) (gN : mg "is_name" = some (.ref fN)) :
    FnOk P w K mg base CX0 2 f fd ["leg", "partners"] spIsLeg := by
  refine F.ok scIsLeg (fun vs H Q E h => ?_) (fun cdv A outer s H vs Q E hr h => ?_)
  · obtain ⟨v, d, p, rows, rfl, _⟩ := h
    rfl
  · obtain ⟨v, d, p, rows, rfl, hd, hp, k⟩ := h
    refine ⟨_, pss_one (ps_ret (pe_and (pe_call GP hr (by rfl) gP kP bP .nil pass0 (pa_cons (pv 0) pa_nil)) (pe_and (pe_call GN hr (by rfl) gN kN bN .nil pass0 (pa_cons (pe_ix ix_tup (pv 0) pe_int (fun _ _ => rfl)) pa_nil))
      (pe_and (pe_call GN hr (by rfl) gN kN bN .nil pass0 (pa_cons (pe_ix ix_tup (pv 0) pe_int (fun _ _ => rfl)) pa_nil)) (pe_one (pe_cmp (pc_din (hu_of hr) (pe_ix ix_tup (pv 0) pe_int (fun _ _ => rfl)) (pv 1)) rfl)))))), ?_⟩
    refine ⟨_, rfl, v, d, rfl, hd, _, rfl, ?_⟩
    by_cases hpr : pairD d = true
    · rw [hpr]
      cases hd with
      | @tup a xs ds e l r =>
        have h2 : ds.length = 2 := of_decide_eq_true hpr
        obtain ⟨v0, v1, d0, d1, ex, ed, h0, h1⟩ := r.two h2
        subst ex
        subst ed
        · skip
          have kk : ∀ H', Same H H' → Q (.bl (nameD d0 && (nameD d1 && decide (strO d1 ∈ rows.map (·.1))))) H' := k
          refine ⟨_, rfl, a, _, _, _, rfl, rfl, (TupAt.sq e), atI_nat (j := 0) rfl, v0, d0, rfl, h0, fun H1 s1 => ⟨_, rfl, ?_⟩⟩
          by_cases hn : nameD d0 = true
          · rw [hn] at kk ⊢
            rw [Bool.true_and] at kk
            refine ⟨_, rfl, a, _, _, _, rfl, rfl, (TupAt.sq (TupAt.same s1 e)), atI_nat (j := 1) rfl, v1, d1, rfl, h1.same s1, fun H2 s2 => ⟨_, rfl, ?_⟩⟩
            by_cases hm : nameD d1 = true
            · obtain ⟨x, rfl⟩ := name_str hm
              obtain ⟨rfl, _⟩ := dt_str h1
              rw [hm] at kk ⊢
              rw [Bool.true_and] at kk
              refine ⟨_, rfl, a, _, _, _, rfl, rfl, (TupAt.sq (TupAt.same s2 (TupAt.same s1 e))), atI_nat (j := 1) rfl, _, rfl, p, _, rfl, dget_rows (.inl ((s1.trans s2) _ _ hp)) x, ?_⟩
              rw [val_rows]
              exact kk _ (s1.trans s2)
            · have hm' : nameD d1 = false := by simpa using hm
              rw [hm'] at kk ⊢
              exact kk _ (s1.trans s2)
          · have hn' : nameD d0 = false := by simpa using hn
            rw [hn'] at kk ⊢
            exact kk _ s1
      | _ => cases hpr
    · have hpr' : pairD d = false := by simpa using hpr
      rw [hpr']
      have e : legD (rows.map (·.1)) d = false := by
        cases d with
        | tuple ds =>
          match ds, hpr' with
          | [], _ => rfl
          | [_], _ => rfl
          | [_, _], h => cases h
          | _ :: _ :: _ :: _, _ => rfl
        | _ => rfl
      have k2 := k H (Same.refl _)
      rw [e] at k2
      exact k2
end
end Toy
set_option Elab.async false
set_option linter.all false
set_option maxRecDepth 100000
set_option maxHeartbeats 4000000
namespace Toy
open PySem PySem.Spec PyProof.Rows L2
/-! ### kinds as a dict -/
/-- kinds, each with the place of its ends -/
def kvK (kt : KRow × Addr) : Key × V := (Sum.inr kt.1.1, .ref kt.2)
theorem kinds_pairs {K : PySem.W.Frag} {H : Hp} : ∀ {xs : List V} {ks : List KRow}, DtAll H xs (ks.map kindT) → ∃ (ps : List Addr) (kts : List (KRow × Addr)), xs = ps.map V.ref ∧ kts.map (·.1) = ks ∧ Paired (fun p kv => SqT K H p [kV kv.1, kv.2]) ps (kts.map kvK) ∧ ∀ kt ∈ kts, Dt H (.ref kt.2) (.tuple (kt.1.2.map .str))
  | _, [], .nil => ⟨[], [], rfl, rfl, .nil, fun _ z => nomatch z⟩
  | _, k :: ks, .cons h t => by
    obtain ⟨ps, kts, e1, e2, pr, ok⟩ := kinds_pairs (K := K) t
    generalize ek : kindT k = kd at h
    cases h with
    | tup e l r =>
      rename_i a xs0 ds0
      have ed : [PyData.str k.1, .tuple (k.2.map .str)] = ds0 := by
        have q : PyData.tuple [.str k.1, .tuple (k.2.map .str)] = .tuple ds0 := ek
        injection q
      subst ed
      cases r with
      | cons h1 r =>
        cases r with
        | cons h2 r =>
          cases r
          cases h1
          generalize et : PyData.tuple (k.2.map .str) = td at h2
          cases h2 with
          | tup e2' l2 r2 =>
            rename_i tp _ _
            refine ⟨a :: ps, (k, tp) :: kts, by rw [e1]; rfl, by rw [List.map_cons, e2], .cons ((TupAt.sq e)) pr, fun kt hk => ?_⟩
            rcases List.mem_cons.mp hk with z | z
            · rw [z]
              show Dt H (.ref tp) (.tuple (k.2.map .str))
              rw [et]
              exact .tup e2' l2 r2
            · exact ok kt z
          | _ => cases et
    | _ => cases ek
theorem keys_kts (kts : List (KRow × Addr)) : (kts.map kvK).map (·.1) = ((kts.map (·.1)).map (·.1)).map (Sum.inr : Str → Key) := by
  rw [List.map_map, List.map_map, List.map_map]
  rfl
theorem dict_kts {kts : List (KRow × Addr)} (h : ((kts.map (·.1)).map (·.1)).Nodup) : mergeK [] (kts.map kvK) = kts.map kvK :=
  mergeK_nodup _ [] (by rw [List.nil_append, keys_kts, inr_nodup]; exact h)
theorem val_kts : ∀ (kts : List (KRow × Addr)) (x : Str), (valV (kts.map kvK) (Sum.inr x)).isSome = decide (x ∈ (kts.map (·.1)).map (·.1))
  | [], x => rfl
  | kt :: kts, x => by
    by_cases h : kt.1.1 = x
    · rw [List.map_cons, valV_pos (p := kvK kt) (congrArg Sum.inr h)]
      have hm : x ∈ ((kt :: kts).map (·.1)).map (·.1) := by
        rw [List.map_cons, List.map_cons, h]
        exact List.mem_cons_self
      rw [decide_eq_true hm]
      rfl
    · rw [List.map_cons, valV_neg (p := kvK kt) (fun z => h (Sum.inr.inj z)), val_kts kts x]
      have e : (x ∈ ((kt :: kts).map (·.1)).map (·.1)) ↔ x ∈ (kts.map (·.1)).map (·.1) := by
        rw [List.map_cons, List.map_cons, List.mem_cons]
        exact ⟨fun z => z.elim (fun q => absurd q.symm h) id, .inr⟩
      exact decide_eq_decide.mpr e.symm
end Toy
set_option Elab.async false
set_option linter.all false
set_option maxRecDepth 100000
set_option maxHeartbeats 4000000
namespace Toy
open PySem PySem.Spec PyProof.Rows L2
/-! ### corners -/
def cornersD (keys : List Str) : PyData → Bool
  | .list ds => decide (ds.length ≤ 6) && ds.all fun d => nameD d && decide (strO d ∈ keys)
  | _ => false
/-- a stock that was made -/
structure StkG (C : Addr) (H : Hp) (a : Addr) (rows : Rows2) (ks : List KRow) : Prop where
  at_ : StkAt C H a (rows.map rowT) (ks.map kindT)
  nd : (ks.map (·.1)).Nodup
  nr : (rows.map (·.1)).Nodup
def spCorners (C : Addr) : Sp := fun vs H Q _ => ∃ (a : Addr) (rows : Rows2) (ks : List KRow) (v : V) (d : PyData), vs = [.ref a, v] ∧ StkG C H a rows ks ∧ Dt H v d ∧ ∀ H', Same H H' → Q (.bl (cornersD (ks.map (·.1)) d)) H'
section
variable {P : Program} {w : World} {K : PySem.W.Frag} {mg : Str → Option Value} {base : Heap}
theorem scCorners : FnScope ["stock", "corners", "kinds", "kind"] ["stock", "corners"] (defScope sCorners) := ⟨rfl, rfl, rfl, by decide +kernel, rfl, by decide +kernel, by decide +kernel⟩
theorem ok_corners {f fL fN fX C CN : Addr} {fd fdL fdN : FuncData} (F : Fun K "_are_corners" "_are_corners" sCorners f fd) (M : Mods mg) (T : StkC K mg C CN fX) (hmc : ∃ t, mg "MOST_CORNERS" = some (.int 6 t))
    (GL : FnOk P w K mg base CX0 1 fL fdL ["thing", "fewest", "most"] spList) (kL : PySem.W.keepIn K (.ref fL) = true) (bL : Binds K fdL ["thing", "fewest", "most"] []) (gL : mg "is_list" = some (.ref fL))
    (GN : FnOk P w K mg base CX0 1 fN fdN ["thing"] spName) (kN : PySem.W.keepIn K (.ref fN) = true) (bN : Binds K fdN ["thing"] []) (gN : mg "is_name" = some (.ref fN)) :
    FnOk P w K mg base CX0 2 f fd ["stock", "corners"] (spCorners C) := by
  obtain ⟨tc, hmc⟩ := hmc
  refine F.ok scCorners (fun vs H Q E h => ?_) (fun cdv A outer s H vs Q E hr h => ?_)
  · obtain ⟨a, rows, ks, v, d, rfl, _⟩ := h
    rfl
  · obtain ⟨a, rows, ks, v, d, rfl, sg, hd, k⟩ := h
    refine ⟨_, pss_cons (ps_if (pt_not (pt_val (pe_call GL hr (by rfl) gL kL bL .nil pass0 (pa_cons (pv 1) (pa_cons pe_int (pa_cons (pe_glob (v := .int 6) (by rfl) hmc ⟨_, rfl⟩) pa_nil)))))) (pss_one (ps_ret pe_bl)) pss_nil)
      (pss_cons (ps_set (i := 2) scCorners.nd rfl (Or.inr rfl) (pe_callTy (call_dictP rfl) (by rfl) M.dict_ (by decide +kernel) (pa_cons (pe_fld (pv 0) rfl) pa_nil)))
      (pss_one (ps_ret (pe_callB (cr_all rfl) (by rfl) M.all_ (by decide +kernel) (pa_cons (pe_lc (own := [("kind", 3)]) (g := gName 3) (tt := tYes) (te := tAndV (tCall spName [] E0 (tCons (tVar 3) tNil)) (tDIn (tVar 3) (tVar 2))) rfl scCorners.nd (pi_list (pv 1)) (blkOk_by (N := ["stock", "corners", "kinds", "kind"]) (sc := defScope sCorners) (by decide +kernel)) (fun _ _ _ _ _ => pg_name (i := 3) scCorners.nd rfl (Or.inl rfl)) (fun _ _ _ _ _ => pts_nil)
          (fun _ _ _ _ _ => (by exact pe_and (pe_call GN hr (by rfl) gN kN bN .nil pass0 (pa_cons (pv 3) pa_nil)) (pe_one (pe_cmp (pc_din (hu_of hr) (pv 3) (pv 2)) rfl))))) pa_nil))))), ?_⟩
    refine ⟨_, rfl, v, d, 0, 6, rfl, hd, _, rfl, ?_⟩
    by_cases hl : listD 0 6 d = true
    · rw [hl]
      cases hd with
      | @lst c xs ds e l r =>
        have hl2 : (decide ((0 : Int) ≤ (ds.length : Int)) && decide ((ds.length : Int) ≤ 6)) = true := hl
        rw [Bool.and_eq_true, decide_eq_true_eq, decide_eq_true_eq] at hl2
        have k' : ∀ H', Same H H' → Q (.bl (decide (ds.length ≤ 6) && ds.all fun d => nameD d && decide (strO d ∈ ks.map (·.1)))) H' := k
        rw [decide_eq_true (by omega : ds.length ≤ 6), Bool.true_and] at k'
        obtain ⟨⟨dx, sl, sm, es, dl, dm⟩, _, _⟩ := sg.at_
        obtain ⟨ms, em, lm, rm⟩ := dt_list dm
        obtain ⟨ps, kts, exs, ekt, pr, okt⟩ := kinds_pairs (K := K) rm
        subst exs
        refine ⟨_, rfl, a, C, dx, _, _, rfl, es, T.cl, T.nK, sf_kinds sl sm, sm, ps, _, rfl, SqL.of em, pr, fun dp hdp => ?_⟩
        rw [dict_kts (by rw [ekt]; exact sg.nd)]
        have t1 := same_new (o := .dK (kts.map kvK)) hdp
        have hdp1 : upd H dp (.dK (kts.map kvK)) dp = some (.dK (kts.map kvK)) := upd_same
        generalize upd H dp (.dK (kts.map kvK)) = H1 at t1 hdp1 ⊢
        refine ⟨_, rfl, c, rfl, ⟨_, SqL.of (t1 _ _ e)⟩, fun D hD => ?_⟩
        refine lc_mapW (walk_list (K := K) (a := c) (xs := xs)) (ds.map fun d => V.bl (nameD d && decide (strO d ∈ ks.map (·.1)))) (by rw [List.length_map, r.len]) l hD (fun H2 s2 => SqL.of (s2 _ _ (t1 _ _ e))) (fun i H x H' h => by rw [h.1]; exact Same.refl _) (fun i y H2 H3 R hi s2 hy hR => ?_) (fun H2 s2 hD1 => ?_)
        · obtain ⟨rfl, hy⟩ := hy
          obtain ⟨di, hdi, hDi⟩ := r.at_ hy
          refine ⟨rfl, _, rfl, y, di, rfl, hDi.same (t1.trans s2), fun H4 s4 => ⟨_, rfl, ?_⟩⟩
          by_cases hn : nameD di = true
          · obtain ⟨x, rfl⟩ := name_str hn
            obtain ⟨rfl, _⟩ := dt_str hDi
            rw [hn]
            refine ⟨_, rfl, _, rfl, dp, _, rfl, .inl ⟨_, Sum.inr x, .inl (s4 _ _ (s2 _ _ hdp1)), rfl, rfl⟩, ?_⟩
            rw [val_kts, ekt]
            exact hR _ _ (by rw [allB_at ds _ hdi, hn]; rfl) s4
          · have hn' : nameD di = false := by simpa using hn
            rw [hn']
            exact hR _ _ (by rw [allB_at ds _ hdi, hn']; rfl) s4
        · refine ⟨D, ds.map fun d => (nameD d && decide (strO d ∈ ks.map (·.1))), rfl, ?_, ?_⟩
          · rw [List.map_map]
            exact SqL.of hD1
          · rw [List.all_map]
            exact k' _ (t1.trans s2)
      | _ => cases hl
    · have hl' : listD 0 6 d = false := by simpa using hl
      rw [hl']
      have e : cornersD (ks.map (·.1)) d = false := by
        cases d with
        | list ds =>
          have h2 : (decide ((0 : Int) ≤ (ds.length : Int)) && decide ((ds.length : Int) ≤ 6)) = false := hl'
          have h3 : ¬ ds.length ≤ 6 := fun q => by
            rw [decide_eq_true (by omega), decide_eq_true (by omega)] at h2
            cases h2
          show (decide (ds.length ≤ 6) && _) = false
          rw [decide_eq_false h3, Bool.false_and]
        | _ => rfl
      have k2 := k H (Same.refl _)
      rw [e] at k2
      exact k2
end
end Toy
set_option Elab.async false
set_option linter.all false
set_option maxRecDepth 100000
set_option maxHeartbeats 2000000
namespace L2
open PySem PySem.Spec PyProof.Rows Toy
/-- sorted(xs), plain data side by side with their values -/
def rSortD (K : PySem.W.Frag) : List V → Hp → VK → Prop := fun vs H Q => ∃ (a : Addr) (zs : List (PyData × V)), vs = [V.ref a] ∧ SqL K H a (zs.map (·.2)) ∧ (∀ z ∈ zs, Dp K H z.2 z.1 ∧ PyData.depth z.1 ≤ 20) ∧
  PySem.W.AllAlike (zs.map (·.1)) ∧ PySem.W.Sortable (zs.map (·.1)) ∧ zs.length ≤ 1000 ∧ ∀ p, H p = none → Q (.ref p) (upd H p (.lst ((zs.mergeSort (PySem.W.dataLe false (·.1))).map (·.2))))
section
variable {X : Cx}
theorem cr_sortD (hu : X.A.units + 64 < cLine) : CallR X (.builtin "sorted") (rSortD X.K) := by
  intro pins s σ H xs us Q I r h
  obtain ⟨a, zs, rfl, hs, hz, al, so, l1, q⟩ := h
  obtain ⟨its, rv, hl, _⟩ := I.list hs
  rw [Vals.ref1 r]
  have each : ∀ {zs : List (PyData × V)} {its : List Value}, Vals (zs.map (·.2)) its → PySem.W.EachIs (fun v (b : PyData × V) => RelV b.2 v) its zs := by
    intro zs
    induction zs with
    | nil => exact fun v => by cases v; exact .nil
    | cons z zs ih =>
      intro its v
      cases v with
      | cons r t => exact .cons r (ih t)
  have reads : PySem.W.EachIs (fun v (b : PyData × V) => ∃ as, Reads s.heap v b.1 as) its zs := by
    have key : ∀ {zs : List (PyData × V)} {its : List Value}, Vals (zs.map (·.2)) its → (∀ z ∈ zs, Dp X.K H z.2 z.1) → PySem.W.EachIs (fun v (b : PyData × V) => ∃ as, Reads s.heap v b.1 as) its zs := by
      intro zs
      induction zs with
      | nil => exact fun v _ => by cases v; exact .nil
      | cons z zs ih =>
        intro its v hd
        cases v with
        | cons r t => exact .cons (Dp.reads I _ _ _ (hd z List.mem_cons_self) r) (ih t fun y hy => hd y (List.mem_cons_of_mem _ hy))
    exact key rv fun z hz' => (hz z hz').1
  have back : ∀ {zs : List (PyData × V)} {out : List Value}, PySem.W.EachIs (fun v (b : PyData × V) => RelV b.2 v) out zs → Vals (zs.map (·.2)) out := by
    intro zs out e
    induction e with
    | nil => exact .nil
    | cons r _ ih => exact .cons r ih
  have big : zs.length ≤ sizeLine := Nat.le_trans l1 (by decide)
  refine PySem.W.sorted_data (enc := (·.1)) (R := fun v (b : PyData × V) => RelV b.2 v) hl.isList (each rv) reads al so big (fun b hb => ?_) fun out ho e => ?_
  · have := (hz b hb).2
    omega
  · obtain ⟨ep, at_⟩ := PyProof.Rows.sortedAll_at s.heap its out.toArray
    have lz : ((zs.mergeSort (PySem.W.dataLe false (·.1))).map (·.2)).length ≤ sizeLine := by
      rw [List.length_map, List.length_mergeSort]
      exact big
    exact ⟨.ref _, upd H (s.heap.objs.size + 1) (.lst ((zs.mergeSort (PySem.W.dataLe false (·.1))).map (·.2))), I.laid (t' := s.toks) (fun _ _ => PyProof.Rows.sortedAll_old) (Nat.le_succ _) ⟨lz, _, ep, back e, at_⟩, rfl, q _ (I.hok.fresh (Nat.le_succ _))⟩
end
end L2
set_option Elab.async false
set_option linter.all false
set_option maxRecDepth 100000
set_option maxHeartbeats 2000000
namespace L2
open PySem PySem.Spec PyProof.Rows Toy
/-- a < b and a <= b of alike plain data -/
def rOrdD (K : PySem.W.Frag) (f : PyData → PyData → Bool) : R2 := fun x y H Q => ∃ d e, Dp K H x d ∧ Dp K H y e ∧ PySem.W.alike d e = true ∧ d ≠ .none ∧ PyData.depth d ≤ 20 ∧ Q (.bl (f d e)) H
section
variable {X : Cx}
theorem op_ltD (hu : X.A.units + 64 < cLine) : OpR X (compareOp .Lt) (rOrdD X.K PySem.W.dataLt) := by
  intro pins z σ H x y v u Q I rx ry hh
  obtain ⟨d, e, h1, h2, al, nn, dep, q⟩ := hh
  obtain ⟨as, ra⟩ := Dp.reads I _ _ _ h1 rx
  obtain ⟨bs, rb⟩ := Dp.reads I _ _ _ h2 ry
  exact PySem.W.lt_data ra rb al nn (by omega) ⟨.bl _, H, I, rfl, q⟩
theorem op_leD (hu : X.A.units + 64 < cLine) : OpR X (compareOp .LtE) (rOrdD X.K fun d e => !PySem.W.dataLt e d) := by
  intro pins z σ H x y v u Q I rx ry hh
  obtain ⟨d, e, h1, h2, al, nn, dep, q⟩ := hh
  obtain ⟨as, ra⟩ := Dp.reads I _ _ _ h1 rx
  obtain ⟨bs, rb⟩ := Dp.reads I _ _ _ h2 ry
  exact PySem.W.le_data ra rb al nn (by omega) ⟨.bl _, H, I, rfl, q⟩
/-- the least (the greatest) of a tuple of alike plain data, data side by side with their values -/
def rBestT (K : PySem.W.Frag) (best : PyData → List PyData → PyData) : List V → Hp → VK → Prop := fun vs H Q => ∃ (a : Addr) (z : PyData × V) (zs : List (PyData × V)), vs = [V.ref a] ∧ SqT K H a ((z :: zs).map (·.2)) ∧ (∀ y ∈ z :: zs, Dp K H y.2 y.1) ∧
  PySem.W.AlikeAll ((z :: zs).map (·.1)) ∧ PyData.depthAll ((z :: zs).map (·.1)) ≤ 20 ∧ ∀ y ∈ z :: zs, y.1 = best z.1 (zs.map (·.1)) → Q y.2 H
theorem best_in (f : PyData → PyData → Bool) : ∀ (xs : List PyData) (x : PyData), xs.foldl (fun a y => if f y a = true then y else a) x ∈ x :: xs
  | [], x => List.mem_cons_self
  | y :: ys, x => by
    rw [List.foldl_cons]
    have h := best_in f ys (if f y x = true then y else x)
    rcases List.mem_cons.mp h with e | m
    · rw [e]
      split
      · exact List.mem_cons_of_mem _ List.mem_cons_self
      · exact List.mem_cons_self
    · exact List.mem_cons_of_mem _ (List.mem_cons_of_mem _ m)
theorem reads_zip {pins : List (Addr × Obj)} {s : Shared} {σ : L2.St} {H : Hp} (I : Inv X pins σ H s) : ∀ {zs : List (PyData × V)} {its : List Value}, Vals (zs.map (·.2)) its → (∀ z ∈ zs, Dp X.K H z.2 z.1) → ∃ as, ReadsAll s.heap its (zs.map (·.1)) as := by
  intro zs
  induction zs with
  | nil => exact fun v _ => by cases v; exact ⟨[], .nil⟩
  | cons z zs ih =>
    intro its v hd
    cases v with
    | cons r t =>
      obtain ⟨as, ra⟩ := Dp.reads I _ _ _ (hd z List.mem_cons_self) r
      obtain ⟨bs, rb⟩ := ih t fun y hy => hd y (List.mem_cons_of_mem _ hy)
      exact ⟨as ++ bs, .cons ra rb⟩
theorem vals_at : ∀ {xs : List V} {us : List Value} {i : Nat} {u : Value}, Vals xs us → us[i]? = some u → ∃ x, xs[i]? = some x ∧ RelV x u
  | _, _, i, _, .nil, e => by simp at e
  | _, _, 0, _, .cons r _, e => by cases e; exact ⟨_, rfl, r⟩
  | _, _, i + 1, _, .cons _ t, e => vals_at (i := i) t (by rw [List.getElem?_cons_succ] at e; exact e)
theorem cr_minT (hc : X.calm = true) (hu : X.A.units + 64 < cLine) : CallR X (.builtin "min") (rBestT X.K PySem.W.minD) := by
  intro pins s σ H xs us Q I r h
  obtain ⟨a, z, zs, rfl, hs, hd, al, dep, q⟩ := h
  obtain ⟨its, rv, hl, _⟩ := I.tuple hs
  rw [Vals.ref1 r]
  obtain ⟨as, ra⟩ := reads_zip I rv hd
  refine PySem.W.min_tuple_data (vs := its.toArray) (I.ok.hd hc) hl (by exact ra) (by exact al) (by have d2 : PyData.depthAll (z.1 :: zs.map (·.1)) ≤ 20 := dep; exact Nat.lt_of_le_of_lt (Nat.add_le_add_left d2 _) (by omega)) fun i v h' tk bs hv rd hk => ?_
  rw [List.getElem?_toArray] at hv
  obtain ⟨x, hx, rx⟩ := vals_at rv hv
  rw [List.getElem?_map] at hx
  cases e : (z :: zs)[i]? with
  | none =>
    rw [e] at hx
    cases hx
  | some y =>
    rw [e] at hx
    cases hx
    have hy := List.mem_of_getElem? e
    refine ⟨y.2, H, I.kept (h' := h') (t' := tk) hk, rx, q y hy ?_⟩
    obtain ⟨cs, rc⟩ := Dp.reads I _ _ _ (hd y hy) rx
    exact PySem.W.alike_unique y.1 _ v _ _ (al.1 _ (List.mem_map_of_mem (f := (·.1)) hy) _ (by exact best_in PySem.W.dataLt (zs.map (fun y => y.1)) z.1)) (Reads.keeps hk rc) rd
theorem cr_maxT (hc : X.calm = true) (hu : X.A.units + 64 < cLine) : CallR X (.builtin "max") (rBestT X.K PySem.W.maxD) := by
  intro pins s σ H xs us Q I r h
  obtain ⟨a, z, zs, rfl, hs, hd, al, dep, q⟩ := h
  obtain ⟨its, rv, hl, _⟩ := I.tuple hs
  rw [Vals.ref1 r]
  obtain ⟨as, ra⟩ := reads_zip I rv hd
  refine PySem.W.max_tuple_data (vs := its.toArray) (I.ok.hd hc) hl (by exact ra) (by exact al) (by have d2 : PyData.depthAll (z.1 :: zs.map (·.1)) ≤ 20 := dep; exact Nat.lt_of_le_of_lt (Nat.add_le_add_left d2 _) (by omega)) fun i v h' tk bs hv rd hk => ?_
  rw [List.getElem?_toArray] at hv
  obtain ⟨x, hx, rx⟩ := vals_at rv hv
  rw [List.getElem?_map] at hx
  cases e : (z :: zs)[i]? with
  | none =>
    rw [e] at hx
    cases hx
  | some y =>
    rw [e] at hx
    cases hx
    have hy := List.mem_of_getElem? e
    refine ⟨y.2, H, I.kept (h' := h') (t' := tk) hk, rx, q y hy ?_⟩
    obtain ⟨cs, rc⟩ := Dp.reads I _ _ _ (hd y hy) rx
    exact PySem.W.alike_unique y.1 _ v _ _ (al.1 _ (List.mem_map_of_mem (f := (·.1)) hy) _ (by exact best_in (fun a b => PySem.W.dataLt b a) (zs.map (fun y => y.1)) z.1)) (Reads.keeps hk rc) rd
end
end L2
set_option Elab.async false
set_option linter.all false
set_option maxRecDepth 100000
set_option maxHeartbeats 4000000
namespace Toy
open PySem PySem.Spec PyProof.Rows L2
/-! ### legs -/
def sortD (ds : List PyData) : List PyData := ds.mergeSort (PySem.W.dataLe false id)
def legsD (keys : List Str) : PyData → Bool
  | .list ds => decide (ds.length ≤ 6) && (ds.all (legD keys) && (PyData.eqv (.list ds) (.list (sortD ds)) && decide (ds.map name0).Nodup))
  | _ => false
def spLegs (C : Addr) : Sp := fun vs H Q _ => ∃ (a : Addr) (rows : Rows2) (ks : List KRow) (v : V) (d : PyData), vs = [.ref a, v] ∧ StkG C H a rows ks ∧ Dt H v d ∧ ∀ H', Same H H' → Q (.bl (legsD (rows.map (·.1)) d)) H'
theorem leg_row {keys : List Str} {d : PyData} (h : legD keys d = true) : ∃ r : Str × Str, d = rowT r := by
  match d, h with
  | .tuple [a, b], h =>
    have h2 : (nameD a && (nameD b && decide (strO b ∈ keys))) = true := h
    rw [Bool.and_eq_true, Bool.and_eq_true] at h2
    obtain ⟨x, rfl⟩ := name_str h2.1
    obtain ⟨y, rfl⟩ := name_str h2.2.1
    exact ⟨(x, y), rfl⟩
theorem legs_rows {keys : List Str} : ∀ {ds : List PyData}, (∀ d ∈ ds, legD keys d = true) → ∃ rs : Rows2, ds = rs.map rowT
  | [], _ => ⟨[], rfl⟩
  | d :: ds, h => by
    obtain ⟨r, rfl⟩ := leg_row (h d List.mem_cons_self)
    obtain ⟨rs, rfl⟩ := legs_rows fun x hx => h x (List.mem_cons_of_mem _ hx)
    exact ⟨r :: rs, rfl⟩
theorem alike_rows (rs : Rows2) : PySem.W.AllAlike (rs.map rowT) := PySem.W.AllAlike.of fun b b' => by
  show PySem.W.alike (.tuple [.str b.1, .str b.2]) (.tuple [.str b'.1, .str b'.2]) = true
  simp [PySem.W.alike, PySem.W.alikeAll]
theorem sortable_rows (rs : Rows2) : PySem.W.Sortable (rs.map rowT) := PySem.W.Sortable.tuples fun b => ⟨.str b.1, [.str b.2], rfl⟩
theorem zip_fst : ∀ {H : Hp} {xs : List V} {ds : List PyData}, DtAll H xs ds → (ds.zip xs).map (·.1) = ds ∧ (ds.zip xs).map (·.2) = xs
  | _, _, _, .nil => ⟨rfl, rfl⟩
  | _, _, _, .cons h t => by
    obtain ⟨e1, e2⟩ := zip_fst t
    rw [List.zip_cons_cons, List.map_cons, List.map_cons, e1, e2]
    exact ⟨rfl, rfl⟩
theorem zip_dt : ∀ {H : Hp} {xs : List V} {ds : List PyData}, DtAll H xs ds → ∀ z ∈ ds.zip xs, Dt H z.2 z.1
  | _, _, _, .nil => fun _ z => nomatch z
  | _, _, _, .cons h t => fun z hz => by
    rw [List.zip_cons_cons] at hz
    rcases List.mem_cons.mp hz with e | m
    · rw [e]
      exact h
    · exact zip_dt t z m
theorem dts_of {H : Hp} : ∀ {zs : List (PyData × V)}, (∀ z ∈ zs, Dt H z.2 z.1) → DtAll H (zs.map (·.2)) (zs.map (·.1))
  | [], _ => .nil
  | z :: zs, h => .cons (h z List.mem_cons_self) (dts_of fun y hy => h y (List.mem_cons_of_mem _ hy))
theorem sort_fst (zs : List (PyData × V)) : (zs.mergeSort (PySem.W.dataLe false (·.1))).map (·.1) = sortD (zs.map (·.1)) := by
  unfold sortD
  exact List.map_mergeSort fun a _ b _ => rfl
/-- sorted(xs) of a list of data -/
theorem sort_ok {K : PySem.W.Frag} {H : Hp} {Q : VK} {a : Addr} {ds : List PyData} (h : Dt H (.ref a) (.list ds)) (low : ∀ d ∈ ds, noDict d = true ∧ PyData.depth d ≤ 20) (al : PySem.W.AllAlike ds) (so : PySem.W.Sortable ds)
    (q : ∀ p H', Dt H' (.ref p) (.list (sortD ds)) → Same H H' → Q (.ref p) H') : rSortD K [.ref a] H Q := by
  obtain ⟨xs, e, l, r⟩ := dt_list h
  obtain ⟨e1, e2⟩ := zip_fst r
  have zd := zip_dt r
  have mem1 : ∀ z ∈ ds.zip xs, z.1 ∈ ds := fun z hz => by rw [← e1]; exact List.mem_map_of_mem (f := (·.1)) hz
  have lz : (ds.zip xs).length = xs.length := by rw [← List.length_map (f := (·.2)), e2]
  refine ⟨a, ds.zip xs, rfl, by rw [e2]; exact SqL.of e, fun z hz => ⟨(zd z hz).dp (low _ (mem1 z hz)).1, (low _ (mem1 z hz)).2⟩, by rw [e1]; exact al, by rw [e1]; exact so, by omega, fun p np => ?_⟩
  have t := same_new (o := .lst (((ds.zip xs).mergeSort (PySem.W.dataLe false (·.1))).map (·.2))) np
  refine q p _ ?_ t
  have d2 := dts_of (H := H) (zs := (ds.zip xs).mergeSort (PySem.W.dataLe false (·.1))) fun z hz => zd z (List.mem_mergeSort.mp hz)
  rw [sort_fst, e1] at d2
  exact .lst upd_same (by rw [List.length_map, List.length_mergeSort, lz]; exact l) (d2.same t)
end Toy
set_option Elab.async false
set_option linter.all false
set_option maxRecDepth 100000
set_option maxHeartbeats 4000000
namespace Toy
open PySem PySem.Spec PyProof.Rows L2
theorem rows_pairs {K : PySem.W.Frag} {H : Hp} : ∀ {xs : List V} {rows : Rows2}, DtAll H xs (rows.map rowT) → ∃ ps : List Addr, xs = ps.map V.ref ∧ Paired (fun p kv => SqT K H p [kV kv.1, kv.2]) ps (rows.map kvOf)
  | _, [], .nil => ⟨[], rfl, .nil⟩
  | _, r :: rows, .cons h t => by
    obtain ⟨ps, e1, pr⟩ := rows_pairs (K := K) t
    generalize ek : rowT r = kd at h
    cases h with
    | tup e l rr =>
      rename_i a xs0 ds0
      have ed : [PyData.str r.1, .str r.2] = ds0 := by
        have q : PyData.tuple [.str r.1, .str r.2] = .tuple ds0 := ek
        injection q
      subst ed
      cases rr with
      | cons h1 rr =>
        cases rr with
        | cons h2 rr =>
          cases rr
          cases h1
          cases h2
          exact ⟨a :: ps, by rw [e1]; rfl, .cons ((TupAt.sq e)) pr⟩
    | _ => cases ek
theorem low_row (r : Str × Str) : noDict (rowT r) = true ∧ PyData.depth (rowT r) ≤ 1 := by
  show noDict (.tuple [.str r.1, .str r.2]) = true ∧ PyData.depth (.tuple [.str r.1, .str r.2]) ≤ 1
  simp [noDict, noDicts, PyData.depth, PyData.depthAll]
theorem flat_rows {ds : List PyData} {rs : Rows2} (e : ds = rs.map rowT) : Flat ds := by
  subst e
  exact ⟨noDicts_all fun d hd => by obtain ⟨r, _, rfl⟩ := List.mem_map.mp hd; exact (low_row r).1, depth_all fun d hd => by obtain ⟨r, _, rfl⟩ := List.mem_map.mp hd; exact Nat.le_trans (low_row r).2 (by decide)⟩
theorem sort_rows (rs : Rows2) : ∃ rs' : Rows2, sortD (rs.map rowT) = rs'.map rowT := by
  unfold sortD
  refine ⟨rs.mergeSort fun a b => PySem.W.dataLe false id (rowT a) (rowT b), ?_⟩
  exact (List.map_mergeSort (f := rowT) fun a _ b _ => rfl).symm
section
variable {P : Program} {w : World} {K : PySem.W.Frag} {mg : Str → Option Value} {base : Heap}
theorem scLegs : FnScope ["stock", "legs", "partners", "leg"] ["stock", "legs"] (defScope sLegs) := ⟨rfl, rfl, rfl, by decide +kernel, rfl, by decide +kernel, by decide +kernel⟩
theorem ok_legs {f fL fI fU fX C CN : Addr} {fd fdL fdI fdU : FuncData} (F : Fun K "_are_legs" "_are_legs" sLegs f fd) (M : Mods mg) (T : StkC K mg C CN fX) (hml : ∃ t, mg "MOST_LEGS" = some (.int 6 t))
    (GL : FnOk P w K mg base CX0 1 fL fdL ["thing", "fewest", "most"] spList) (kL : PySem.W.keepIn K (.ref fL) = true) (bL : Binds K fdL ["thing", "fewest", "most"] []) (gL : mg "is_list" = some (.ref fL))
    (GI : FnOk P w K mg base CX0 2 fI fdI ["leg", "partners"] spIsLeg) (kI : PySem.W.keepIn K (.ref fI) = true) (bI : Binds K fdI ["leg", "partners"] []) (gI : mg "_is_leg" = some (.ref fI))
    (GU : FnOk P w K mg base CX0 1 fU fdU ["things"] (spUnlike K)) (kU : PySem.W.keepIn K (.ref fU) = true) (bU : Binds K fdU ["things"] []) (gU : mg "are_unlike" = some (.ref fU)) :
    FnOk P w K mg base CX0 3 f fd ["stock", "legs"] (spLegs C) := by
  obtain ⟨tc, hml⟩ := hml
  refine F.ok scLegs (fun vs H Q E h => ?_) (fun cdv A outer s H vs Q E hr h => ?_)
  · obtain ⟨a, rows, ks, v, d, rfl, _⟩ := h
    rfl
  · obtain ⟨a, rows, ks, v, d, rfl, sg, hd, k⟩ := h
    have hr1 : Room 1 (A.deeper (envOfC "_are_legs" (defScope sLegs) s.heap.objs.size f cdv)) := hr.mono (by decide)
    refine ⟨_, pss_cons (ps_if (pt_not (pt_val (pe_call GL hr1 (by rfl) gL kL bL .nil pass0 (pa_cons (pv 1) (pa_cons pe_int (pa_cons (pe_glob (v := .int 6) (by rfl) hml ⟨_, rfl⟩) pa_nil)))))) (pss_one (ps_ret pe_bl)) pss_nil)
      (pss_cons (ps_set (i := 2) scLegs.nd rfl (Or.inr rfl) (pe_callTy (call_dictP rfl) (by rfl) M.dict_ (by decide +kernel) (pa_cons (pe_fld (pv 0) rfl) pa_nil)))
      (pss_cons (ps_if (pt_not (pt_val (pe_callB (cr_all rfl) (by rfl) M.all_ (by decide +kernel) (pa_cons (pe_lc (own := [("leg", 3)]) (g := gName 3) (tt := tYes) (te := tCall spIsLeg [] E0 (tCons (tVar 3) (tCons (tVar 2) tNil))) rfl scLegs.nd (pi_list (pv 1)) (blkOk_by (N := ["stock", "legs", "partners", "leg"]) (sc := defScope sLegs) (by decide +kernel)) (fun _ _ _ _ _ => pg_name (i := 3) scLegs.nd rfl (Or.inl rfl)) (fun _ _ _ _ _ => pts_nil)
          (fun _ _ _ _ _ => (by exact pe_call GI hr (by rfl) gI kI bI .nil pass0 (pa_cons (pv 3) (pa_cons (pv 2) pa_nil))))) pa_nil)))) (pss_one (ps_ret pe_bl)) pss_nil)
      (pss_one (ps_ret (pe_and (pe_cmpR (op_eqD hr.units) (pv 1) (pe_callB (cr_sortD hr.units) (by rfl) M.srt (by decide +kernel) (pa_cons (pv 1) pa_nil)) (nomark _)) (pe_one (pe_call GU hr1 (by rfl) gU kU bU .nil pass0 (pa_cons (pe_lc (own := [("leg", 3)]) (g := gName 3) (tt := tYes) (te := tOp (rIxT K) (tVar 3) (tC (.int 0))) rfl scLegs.nd (pi_list (pv 1)) (blkOk_by (N := ["stock", "legs", "partners", "leg"]) (sc := defScope sLegs) (by decide +kernel)) (fun _ _ _ _ _ => pg_name (i := 3) scLegs.nd rfl (Or.inl rfl)) (fun _ _ _ _ _ => pts_nil)
          (fun _ _ _ _ _ => (by exact pe_ix ix_tup (pv 3) pe_int (fun _ _ => rfl)))) pa_nil)))))))), ?_⟩
    refine ⟨_, rfl, v, d, 0, 6, rfl, hd, _, rfl, ?_⟩
    by_cases hl : listD 0 6 d = true
    · rw [hl]
      cases hd with
      | @lst c xs ds e l r =>
        have hl2 : (decide ((0 : Int) ≤ (ds.length : Int)) && decide ((ds.length : Int) ≤ 6)) = true := hl
        rw [Bool.and_eq_true, decide_eq_true_eq, decide_eq_true_eq] at hl2
        have k' : ∀ H', Same H H' → Q (.bl (decide (ds.length ≤ 6) && (ds.all (legD (rows.map (·.1))) && (PyData.eqv (.list ds) (.list (sortD ds)) && decide (ds.map name0).Nodup)))) H' := k
        rw [decide_eq_true (by omega : ds.length ≤ 6), Bool.true_and] at k'
        obtain ⟨⟨dx, sl, sm, es, dl, dm⟩, _, _⟩ := sg.at_
        obtain ⟨ms, em, lm, rm⟩ := dt_list dl
        obtain ⟨ps, exs, pr⟩ := rows_pairs (K := K) rm
        subst exs
        refine ⟨_, rfl, a, C, dx, _, _, rfl, es, T.cl, T.nS, sf_sorts sl sm, sl, ps, _, rfl, SqL.of em, pr, fun dp hdp => ?_⟩
        rw [dict_is sg.nr]
        have t1 := same_new (o := .dK (rows.map kvOf)) hdp
        have hdp1 : upd H dp (.dK (rows.map kvOf)) dp = some (.dK (rows.map kvOf)) := upd_same
        generalize upd H dp (.dK (rows.map kvOf)) = H0 at t1 hdp1 ⊢
        refine ⟨_, rfl, c, rfl, ⟨_, SqL.of (t1 _ _ e)⟩, fun D hD => ?_⟩
        refine lc_mapW (walk_list (K := K) (a := c) (xs := xs)) (ds.map fun d => V.bl (legD (rows.map (·.1)) d)) (by rw [List.length_map, r.len]) l hD (fun H1 s1 => SqL.of (s1 _ _ (t1 _ _ e))) (fun i H x H' h => by rw [h.1]; exact Same.refl _) (fun i y H1 H2 R hi s1 hy hR => ?_) (fun H1 s1 hD1 => ?_)
        · obtain ⟨rfl, hy⟩ := hy
          obtain ⟨di, hdi, hDi⟩ := r.at_ hy
          exact ⟨rfl, _, rfl, _, rfl, y, di, dp, rows, rfl, hDi.same (t1.trans s1), s1 _ _ hdp1, fun H3 s3 => hR _ _ (allB_at ds _ hdi) s3⟩
        · have s01 := t1.trans s1
          refine ⟨D, ds.map (legD (rows.map (·.1))), rfl, ?_, _, rfl, ?_⟩
          · rw [List.map_map]
            exact SqL.of hD1
          · rw [List.all_map]
            have eall : (ds.all (id ∘ legD (rows.map (·.1)))) = ds.all (legD (rows.map (·.1))) := rfl
            rw [eall]
            by_cases hall : ds.all (legD (rows.map (·.1))) = true
            · rw [hall] at k' ⊢
              rw [Bool.true_and] at k'
              have hall2 := List.all_eq_true.mp hall
              obtain ⟨rs, ers⟩ := legs_rows hall2
              have dc : Dt H1 (.ref c) (.list ds) := .lst (s01 _ _ e) l (r.same s01)
              have lowd : ∀ d ∈ ds, noDict d = true ∧ PyData.depth d ≤ 20 := fun d hd => by
                rw [ers] at hd
                obtain ⟨r, _, rfl⟩ := List.mem_map.mp hd
                exact ⟨(low_row r).1, Nat.le_trans (low_row r).2 (by decide)⟩
              refine ⟨_, rfl, _, rfl, ?_⟩
              delta tNil
              dsimp only
              refine sort_ok dc lowd (by rw [ers]; exact alike_rows rs) (by rw [ers]; exact sortable_rows rs) fun p H2 dp2 s2 => ?_
              obtain ⟨rs', ers'⟩ := sort_rows rs
              have f1 : Flat ds := flat_rows ers
              have f2 : Flat (sortD ds) := flat_rows (rs := rs') (by rw [ers, ers'])
              obtain ⟨ys, ey, ly, ry⟩ := dt_list dp2
              refine ⟨.list ds, .list (sortD ds), (dc.same s2).dp f1.nd, dp2.dp f2.nd, f1.shape r, f2.shape ry, _, rfl, ?_⟩
              by_cases heq : PyData.eqv (.list ds) (.list (sortD ds)) = true
              · rw [heq] at k' ⊢
                rw [Bool.true_and] at k'
                have s02 := s01.trans s2
                refine ⟨_, rfl, c, rfl, ⟨_, SqL.of (s02 _ _ e)⟩, fun D2 hD2 => ?_⟩
                refine lc_mapW (walk_list (K := K) (a := c) (xs := xs)) ((ds.map name0).map V.str) (by rw [List.length_map, List.length_map, r.len]) l hD2 (fun H3 s3 => SqL.of (s3 _ _ (s02 _ _ e))) (fun i H x H' h => by rw [h.1]; exact Same.refl _) (fun i y H3 H4 R hi s3 hy hR => ?_) (fun H3 s3 hD3 => ?_)
                · obtain ⟨rfl, hy⟩ := hy
                  obtain ⟨di, hdi, hDi⟩ := r.at_ hy
                  obtain ⟨rr, err⟩ := leg_row (hall2 di (List.mem_of_getElem? hdi))
                  have s03 := s02.trans s3
                  rw [err] at hDi
                  obtain ⟨b, rr2, hm, ey2, eb⟩ := row_mem (rows := [rr]) (xs := [y]) (.cons hDi .nil) List.mem_cons_self
                  rw [List.mem_singleton.mp hm] at eb
                  subst ey2
                  refine ⟨rfl, _, rfl, b, _, _, _, rfl, rfl, (TupAt.sq (TupAt.same s03 eb)), atI_nat (j := 0) rfl, hR _ _ ?_ (Same.refl _)⟩
                  rw [List.getElem?_map, List.getElem?_map, hdi, err]
                  rfl
                · refine ⟨D2, ds.map name0, rfl, SqL.of hD3, by rw [List.length_map]; omega, ?_⟩
                  exact k' _ (s02.trans s3)
              · have heq' : PyData.eqv (.list ds) (.list (sortD ds)) = false := by simpa using heq
                rw [heq'] at k' ⊢
                exact k' _ (s01.trans s2)
            · have hall' : ds.all (legD (rows.map (·.1))) = false := by simpa using hall
              rw [hall'] at k' ⊢
              exact k' _ s01
      | _ => cases hl
    · have hl' : listD 0 6 d = false := by simpa using hl
      rw [hl']
      have e : legsD (rows.map (·.1)) d = false := by
        cases d with
        | list ds =>
          have h2 : (decide ((0 : Int) ≤ (ds.length : Int)) && decide ((ds.length : Int) ≤ 6)) = false := hl'
          have h3 : ¬ ds.length ≤ 6 := fun q => by
            rw [decide_eq_true (by omega), decide_eq_true (by omega)] at h2
            cases h2
          show (decide (ds.length ≤ 6) && _) = false
          rw [decide_eq_false h3, Bool.false_and]
        | _ => rfl
      have k2 := k H (Same.refl _)
      rw [e] at k2
      exact k2
end
end Toy
set_option Elab.async false
set_option linter.all false
set_option maxRecDepth 100000
set_option maxHeartbeats 4000000
namespace Toy
open PySem PySem.Spec PyProof.Rows L2
/-! ### corners and legs, or the refusal -/
structure NoDrC (K : PySem.W.Frag) (mg : Str → Option Value) (CN fX : Addr) : Prop where
  ox : OexC K CN
  noP : PySem.W.findIn K (.ref CN) "part" = some none
  ini : PySem.W.findIn K (.ref CN) "__init__" = some (some (.ref fX))
  fun_ : PySem.W.typeIn K (.ref fX) = some (.type "function")
  mgN : mg "NoDrawing" = some (.ref CN)
def spPlaces (C CN : Addr) : Sp := fun vs H Q E => ∃ (a : Addr) (rows : Rows2) (ks : List KRow) (cv lv : V) (cd ld : PyData), vs = [.ref a, cv, lv] ∧ StkG C H a rows ks ∧ Dt H cv cd ∧ Dt H lv ld ∧
  (cornersD (ks.map (·.1)) cd = false → ∀ H' d, H d = none → Same H H' → H' d = some (.xd [("part", .str "corners")]) → E (.ref CN) (some d) H') ∧
  (cornersD (ks.map (·.1)) cd = true → legsD (rows.map (·.1)) ld = false → ∀ H' d, H d = none → Same H H' → H' d = some (.xd [("part", .str "legs")]) → E (.ref CN) (some d) H') ∧
  (cornersD (ks.map (·.1)) cd = true → legsD (rows.map (·.1)) ld = true → ∀ H', Same H H' → Q .non H')
theorem StkG.same {C : Addr} {H H' : Hp} {a : Addr} {rows : Rows2} {ks : List KRow} (x : StkG C H a rows ks) (s : Same H H') : StkG C H' a rows ks := ⟨x.at_.same s, x.nd, x.nr⟩
section
variable {P : Program} {w : World} {K : PySem.W.Frag} {mg : Str → Option Value} {base : Heap}
theorem scPlaces : FnScope ["stock", "corners", "legs"] ["stock", "corners", "legs"] (defScope sPlaces) := ⟨rfl, rfl, rfl, by decide +kernel, rfl, by decide +kernel, by decide +kernel⟩
theorem ok_places {f fC fL fX C CN : Addr} {fd fdC fdL fdX : FuncData} (F : Fun K "check_places" "check_places" sPlaces f fd) (N : NoDrC K mg CN fX)
    (GC : FnOk P w K mg base CX0 2 fC fdC ["stock", "corners"] (spCorners C)) (kC : PySem.W.keepIn K (.ref fC) = true) (bC : Binds K fdC ["stock", "corners"] []) (gC : mg "_are_corners" = some (.ref fC))
    (GL : FnOk P w K mg base CX0 3 fL fdL ["stock", "legs"] (spLegs C)) (kL : PySem.W.keepIn K (.ref fL) = true) (bL : Binds K fdL ["stock", "legs"] []) (gL : mg "_are_legs" = some (.ref fL))
    (GX : FnOk P w K mg base CX0 1 fX fdX ["self", "part"] (spExI CN "part")) (bX : Binds K fdX ["self", "part"] []) :
    FnOk P w K mg base (L2.CX P w) 4 f fd ["stock", "corners", "legs"] (spPlaces C CN) := by
  refine F.okX scPlaces (fun vs H Q E h => ?_) (fun cdv A outer s H vs Q E hr h => ?_)
  · obtain ⟨a, rows, ks, cv, lv, cd, ld, rfl, _⟩ := h
    rfl
  · obtain ⟨a, rows, ks, cv, lv, cd, ld, rfl, sg, hc, hl, no1, no2, yes⟩ := h
    have hr2 : Room 2 _ := hr.mono (by decide)
    refine ⟨_, pss_cons (ps_if (pt_not (pt_val (pe_call GC hr2 (by rfl) gC kC bC .nil pass0 (pa_cons (pv 0) (pa_cons (pv 1) pa_nil))))) (pss_one (ps_raise rfl (takes_of rfl rfl rfl rfl) (pmk_oex N.ox N.ini N.fun_ GX hr2 bX .nil pass0 (by rfl) N.mgN (pa_cons pe_str pa_nil)))) pss_nil)
      (pss_one (ps_if (pt_not (pt_val (pe_call GL hr (by rfl) gL kL bL .nil pass0 (pa_cons (pv 0) (pa_cons (pv 2) pa_nil))))) (pss_one (ps_raise rfl (takes_of rfl rfl rfl rfl) (pmk_oex N.ox N.ini N.fun_ GX hr2 bX .nil pass0 (by rfl) N.mgN (pa_cons pe_str pa_nil)))) pss_nil)), ?_⟩
    refine ⟨_, rfl, _, rfl, a, rows, ks, cv, cd, rfl, sg, hc, fun H1 s1 => ⟨_, rfl, ?_⟩⟩
    by_cases h1 : cornersD (ks.map (·.1)) cd = true
    · rw [h1]
      refine ⟨_, rfl, _, rfl, a, rows, ks, lv, ld, rfl, sg.same s1, hl.same s1, fun H2 s2 => ⟨_, rfl, ?_⟩⟩
      have s12 := s1.trans s2
      by_cases h2 : legsD (rows.map (·.1)) ld = true
      · rw [h2]
        exact yes h1 h2 _ s12
      · have h2' : legsD (rows.map (·.1)) ld = false := by simpa using h2
        rw [h2']
        refine ⟨by show 1 ≤ 1000; decide, fun a2 na => ⟨a2, _, rfl, upd_same, fun d nd ne => ⟨rfl, d, _, upd_same, (by rw [upd_ne ne, upd_same]), ?_, ?_⟩⟩⟩
        · exact (raise_same (dx := d) (fs := []) na nd ne).1
        · obtain ⟨q1, q2⟩ := raise_same (dx := d) (fs := [("part", .str "legs")]) na nd ne
          exact no2 h1 h2' _ d (s12.free q1) (s12.trans q2) upd_same
    · have h1' : cornersD (ks.map (·.1)) cd = false := by simpa using h1
      rw [h1']
      refine ⟨by show 1 ≤ 1000; decide, fun a2 na => ⟨a2, _, rfl, upd_same, fun d nd ne => ⟨rfl, d, _, upd_same, (by rw [upd_ne ne, upd_same]), ?_, ?_⟩⟩⟩
      · exact (raise_same (dx := d) (fs := []) na nd ne).1
      · obtain ⟨q1, q2⟩ := raise_same (dx := d) (fs := [("part", .str "corners")]) na nd ne
        exact no1 h1' _ d (s1.free q1) (s1.trans q2) upd_same
end
end Toy
set_option Elab.async false
set_option linter.all false
set_option maxRecDepth 100000
set_option maxHeartbeats 4000000
namespace Toy
open PySem PySem.Spec PyProof.Rows L2
theorem kts_val : ∀ (kts : List (KRow × Addr)) (x : Str), x ∈ (kts.map (·.1)).map (·.1) → ∃ kt ∈ kts, kt.1.1 = x ∧ valV (kts.map kvK) (Sum.inr x) = some (.ref kt.2)
  | [], x, h => nomatch h
  | kt :: kts, x, hx => by
    by_cases h : kt.1.1 = x
    · exact ⟨kt, List.mem_cons_self, h, by rw [List.map_cons, valV_pos (p := kvK kt) (congrArg Sum.inr h)]; rfl⟩
    · have hx' : x ∈ (kts.map (·.1)).map (·.1) := by
        rcases List.mem_cons.mp hx with z | z
        · exact absurd z.symm h
        · exact z
      obtain ⟨k2, m, e1, e2⟩ := kts_val kts x hx'
      exact ⟨k2, List.mem_cons_of_mem _ m, e1, by rw [List.map_cons, valV_neg (p := kvK kt) (fun z => h (Sum.inr.inj z)), e2]⟩
theorem mul_up (a b : Nat) : ((a : Nat) : Int) * (1 + ((b : Nat) : Int)) = ((a * (1 + b) : Nat) : Int) := by
  rw [Int.natCast_mul, Int.natCast_add]
  rfl
theorem dt_tup {H : Hp} {l : Addr} {ds : List PyData} (h : Dt H (.ref l) (.tuple ds)) : ∃ xs, TupAt H l xs ∧ xs.length ≤ 1000 ∧ DtAll H xs ds := by
  cases h with
  | tup e l r => exact ⟨_, e, l, r⟩
theorem strs_back {H : Hp} : ∀ {xs : List V} {ys : List Str}, DtAll H xs (ys.map .str) → xs = ys.map V.str
  | _, [], .nil => rfl
  | _, y :: ys, .cons h t => by
    cases h
    rw [strs_back t]
    rfl
theorem take_snoc {α : Type} {xs : List α} {i : Nat} {x : α} (h : xs[i]? = some x) : xs.take (i + 1) = xs.take i ++ [x] := by
  rw [List.take_add_one, h]
  rfl
theorem map_str_at {cs : List Str} {i : Nat} {v : V} (h : (cs.map V.str)[i]? = some v) : ∃ x, cs[i]? = some x ∧ v = .str x := by
  rw [List.getElem?_map] at h
  cases e : cs[i]? with
  | none =>
    rw [e] at h
    cases h
  | some x =>
    rw [e] at h
    exact ⟨x, rfl, (Option.some.inj h).symm⟩
theorem cut_strs (cs : List Str) (k : Nat) : cutV (cs.map V.str) none (some (k : Int)) = (cs.take k).map V.str := by
  rw [cut_to, List.map_take]
theorem knds_pairs {K : PySem.W.Frag} {H : Hp} : ∀ {xs : List V} {ks : List KRow}, Paired (KndP H) xs ks → ∃ (ps : List Addr) (kts : List (KRow × Addr)), xs = ps.map V.ref ∧ kts.map (·.1) = ks ∧ Paired (fun p kv => SqT K H p [kV kv.1, kv.2]) ps (kts.map kvK) ∧ ∀ kt ∈ kts, PlT H kt.2 (kt.1.2.map V.str)
  | _, [], .nil => ⟨[], [], rfl, rfl, .nil, fun _ z => nomatch z⟩
  | _, k :: ks, .cons h t => by
    obtain ⟨ps, kts, e1, e2, pr, ok⟩ := knds_pairs (K := K) t
    obtain ⟨q, tp, rfl, ta, pl⟩ := h
    refine ⟨q :: ps, (k, tp) :: kts, by rw [e1]; rfl, by rw [List.map_cons, e2], .cons ta.sq pr, fun kt hk => ?_⟩
    rcases List.mem_cons.mp hk with z | z
    · rw [z]
      exact pl
    · exact ok kt z
theorem paired_at {α β : Type} {F : α → β → Prop} : ∀ {xs : List α} {ys : List β} {i : Nat} {x : α}, Paired F xs ys → xs[i]? = some x → ∃ y, ys[i]? = some y ∧ F x y
  | _, _, i, _, .nil, e => by simp at e
  | _, _, 0, _, .cons h _, e => by
    cases e
    exact ⟨_, rfl, h⟩
  | _, _, i + 1, _, .cons _ t, e => paired_at (i := i) t e
theorem legs_nil (keys : List Str) : legsD keys (.list []) = true := by
  have e : (PyData.list []).eqv (PyData.list (sortD [])) = true := by
    unfold sortD
    rw [List.mergeSort_nil]
    rfl
  show (decide (0 ≤ 6) && (true && ((PyData.list []).eqv (PyData.list (sortD [])) && decide ([] : List Str).Nodup))) = true
  rw [e]
  decide
theorem sf_inj {l m l' m' : Addr} (h : sf l m = sf l' m') : l = l' ∧ m = m' := by
  have h1 := congrArg (fun f : List (Str × V) => f.lookup ("sorts" : Str)) h
  have h2 := congrArg (fun f : List (Str × V) => f.lookup ("kinds" : Str)) h
  simp only [sf_sorts, sf_kinds] at h1 h2
  injection h1 with h1
  injection h1 with h1
  injection h2 with h2
  injection h2 with h2
  exact ⟨h1, h2⟩
theorem row_at {H : Hp} : ∀ {xs : List V} {rows : Rows2} {j : Nat} {x : V} {r : Str × Str}, DtAll H xs (rows.map rowT) → xs[j]? = some x → rows[j]? = some r → ∃ q, x = .ref q ∧ TupAt H q [.str r.1, .str r.2] := by
  intro xs rows j x r h hx hr
  obtain ⟨d, hd, dx⟩ := h.at_ hx
  rw [List.getElem?_map, hr] at hd
  have e : d = rowT r := (Option.some.inj hd).symm
  subst e
  generalize ek : rowT r = kd at dx
  cases dx with
  | tup e l rr =>
    rename_i a xs0 ds0
    have ed : [PyData.str r.1, .str r.2] = ds0 := by
      have q : PyData.tuple [.str r.1, .str r.2] = .tuple ds0 := ek
      injection q
    subst ed
    have es := strs_back (ys := [r.1, r.2]) rr
    subst es
    exact ⟨a, rfl, e⟩
  | _ => cases ek
/-- a stock that was made, of kinds whose ends are plain tuples -/
structure StkP (C : Addr) (H : Hp) (a : Addr) (rows : Rows2) (ks : List KRow) : Prop where
  g : StkG C H a rows ks
  pl : ∀ dx l m, H a = some (.ins C dx (sf l m)) → ∃ ws, H m = some (.lst ws) ∧ Paired (KndP H) ws ks
theorem StkP.same {C : Addr} {H H' : Hp} {a : Addr} {rows : Rows2} {ks : List KRow} (x : StkP C H a rows ks) (s : Same H H') : StkP C H' a rows ks := by
  refine ⟨x.g.same s, fun dx l m e => ?_⟩
  obtain ⟨⟨dx0, l0, m0, e0, _⟩, _⟩ := x.g.at_
  have e1 := s _ _ e0
  rw [e] at e1
  injection e1 with e1
  injection e1 with _ e2 e3
  obtain ⟨e4, e5⟩ := sf_inj e3
  subst e2 e4 e5
  obtain ⟨ws, h1, h2⟩ := x.pl _ _ _ e0
  exact ⟨ws, s _ _ h1, knds_same s h2⟩
/-! ### good data -/
theorem keys_T (rows : Rows2) : keysD (.list (rows.map rowT)) = rows.map (·.1) := by
  show ((rows.map rowT).map rowOf).map (·.1) = _
  rw [rowOf_T]
/-- what a stock is made of -/
structure GoodP (sd kd : List PyData) : Prop where
  s : sortsD (.list sd) = true
  k : kindsD (keysD (.list sd)) (.list kd) = true
theorem goodP {rows : Rows2} {ks : List KRow} (g : GoodS rows) (gk : GoodK (rows.map (·.1)) ks) (h1 : 1 ≤ ks.length) (h4 : ks.length ≤ 4) : GoodP (rows.map rowT) (ks.map kindT) := ⟨g.ok, by rw [keys_T]; exact gk.ok h1 h4⟩
/-! ### making a stock of good data -/
def noE : L2.St → XK := fun _ _ _ _ => False
theorem passN {X : Cx} (σ : L2.St) : PassesAt (L2.CX X.prog X.w) X σ (noE σ) := fun _ _ _ _ _ _ ⟨_, _, _, _, _, _, _, _, _, _, _, _, h⟩ => h.elim
theorem make_ok {C CN x dx : Addr} {H : Hp} {R : VK} {E : XK} {sv kv : V} {ss ks : List PyData} (nx : H x = none) (ndx : H dx = none) (ne : dx ≠ x) (hs : Dt H sv (.list ss)) (hk : Dt H kv (.list ks)) (g : GoodP ss ks)
    (q : ∀ H', StkAt C H' x ss ks → StkNew C H H' x sv kv → Same H H' → R .non H') :
    spInit C CN [.ref x, sv, kv] (upd (upd H dx (.own x)) x (.ins C dx [])) R E := by
  have t1 := same_new (o := .own x) ndx
  have nx2 : upd H dx (.own x) x = none := by rw [upd_ne (fun z => ne z.symm)]; exact nx
  have t2 := same_new (o := .ins C dx []) nx2
  have sH := t1.trans t2
  refine ⟨x, dx, sv, kv, _, _, rfl, upd_same, hs.same sH, hk.same sH, fun h1 => ?_, fun h1 h2 => ?_, fun h1 h2 H' st nw off => ?_⟩
  · rw [g.s] at h1
    cases h1
  · rw [g.k] at h2
    cases h2
  · refine q H' st ?_ (fun b o eb => off _ _ (sH _ _ eb) (ne_of_none eb nx))
    obtain ⟨dx', l, m, a, b, xs, ys, e1, e2, e3, n1, n2, rfl, rfl, e4, e5⟩ := nw
    refine ⟨dx', l, m, a, b, xs, ys, e1, e2, e3, sH.free n1, sH.free n2, rfl, rfl, ?_, ?_⟩
    · cases hs with
      | lst e0 _ _ =>
        have q := sH _ _ e0
        rw [e4] at q
        cases q
        exact e0
    · cases hk with
      | lst e0 _ _ =>
        have q := sH _ _ e0
        rw [e5] at q
        cases q
        exact e0

/-- the stock is made, its kinds' ends are plain -/
theorem make_stk {C CN x dx lk : Addr} {H : Hp} {R : VK} {E : XK} {sv : V} {rows : Rows2} {ks : List KRow} {ws : List V} (nx : H x = none) (ndx : H dx = none) (ne : dx ≠ x) (hs : Dt H sv (.list (rows.map rowT))) (hk : Dt H (.ref lk) (.list (ks.map kindT)))
    (hw : H lk = some (.lst ws)) (kn : Paired (KndP H) ws ks) (gd : GoodS rows) (gk : GoodK (rows.map (·.1)) ks) (h1 : 1 ≤ ks.length) (h4 : ks.length ≤ 4) (q : ∀ H', StkP C H' x rows ks → Same H H' → R .non H') :
    spInit C CN [.ref x, sv, .ref lk] (upd (upd H dx (.own x)) x (.ins C dx [])) R E := by
  refine make_ok nx ndx ne hs hk (goodP gd gk h1 h4) fun H' st nw s => q H' ⟨⟨st, gk.nd, (good_rows gd).2.2.2.1⟩, fun dx' l m e => ?_⟩ s
  obtain ⟨dx2, l2, m2, a, b, xs, ys, e1, e2, e3, n1, n2, rfl, eb, e4, e5⟩ := nw
  injection eb with eb
  subst eb
  rw [e1] at e
  injection e with e
  injection e with _ e6 e7
  obtain ⟨e8, e9⟩ := sf_inj e7
  subst e9
  rw [hw] at e5
  injection e5 with e5
  injection e5 with e5
  subst e5
  exact ⟨ws, e3, knds_same s kn⟩
/-! ### across draws: nothing of a stock stands at the source -/
mutual
def noInt : PyData → Bool
  | .int _ => false
  | .list ds => noInts ds
  | .tuple ds => noInts ds
  | _ => true
def noInts : List PyData → Bool
  | [] => true
  | d :: ds => noInt d && noInts ds
end
theorem noInts_all {ds : List PyData} (h : ∀ d ∈ ds, noInt d = true) : noInts ds = true := by
  induction ds with
  | nil => rfl
  | cons d ds ih =>
    show (noInt d && noInts ds) = true
    rw [h d List.mem_cons_self, ih fun x hx => h x (List.mem_cons_of_mem _ hx)]
    rfl
theorem noInts_strs (xs : List Str) : noInts (xs.map .str) = true := noInts_all fun d hd => by
  obtain ⟨x, _, rfl⟩ := List.mem_map.mp hd
  rfl
theorem noInt_rows (rows : Rows2) : noInt (.list (rows.map rowT)) = true := noInts_all fun d hd => by
  obtain ⟨r, _, rfl⟩ := List.mem_map.mp hd
  rfl
theorem noInt_kinds (ks : List KRow) : noInt (.list (ks.map kindT)) = true := noInts_all fun d hd => by
  obtain ⟨k, _, rfl⟩ := List.mem_map.mp hd
  show (true && (noInts (k.2.map .str) && true)) = true
  rw [noInts_strs]
  rfl
theorem TupAt.src {H : Hp} {p a : Addr} {n : Nat} {xs : List V} (hp : SrcAt H p n) (h : TupAt H a xs) : a ≠ p := by
  obtain ⟨x, y, z, e, _⟩ := hp
  exact h.rd.elim (fun e2 => ne_of e2 e (by intro z; cases z)) fun ⟨_, e2⟩ => ne_of e2 e (by intro z; cases z)
theorem TupAt.del {H : Hp} {p a : Addr} {n : Nat} {xs : List V} (hp : SrcAt H p n) (h : TupAt H a xs) : TupAt (L2.del H p) a xs := by
  have ne := TupAt.src hp h
  refine ⟨?_⟩
  unfold Rd
  rw [del_ne ne]
  exact h.rd
theorem Dt.del {H : Hp} {p : Addr} {n : Nat} (hp : SrcAt H p n) {v : V} {d : PyData} (h : Dt H v d) : noInt d = true → Dt (L2.del H p) v d := by
  refine Dt.rec (motive_1 := fun v d _ => noInt d = true → Dt (L2.del H p) v d) (motive_2 := fun vs ds _ => noInts ds = true → DtAll (L2.del H p) vs ds) ?_ ?_ ?_ ?_ ?_ ?_ ?_ ?_ ?_ h
  · exact fun _ => .non
  · exact fun b _ => .bl b
  · exact fun i q => nomatch q
  · exact fun x hx _ => .str x hx
  · intro a xs ds e l r ih q
    refine .lst ?_ l (ih q)
    have ne : a ≠ p := fun z => by
      obtain ⟨x1, x2, x3, e2, _⟩ := hp
      rw [← z, e] at e2
      injection e2 with e2
      injection e2 with e2
      subst e2
      cases r with
      | cons h1 _ =>
        cases h1
        have q2 := q
        simp [noInt, noInts] at q2
    rw [del_ne ne]
    exact e
  · intro a xs ds e l r ih q
    exact .tup (TupAt.del hp e) l (ih q)
  · intro a e q
    refine .dct ?_
    have ne : a ≠ p := by
      obtain ⟨x1, x2, x3, e2, _⟩ := hp
      exact ne_of e e2 (by intro z; cases z)
    rw [del_ne ne]
    exact e
  · exact fun _ => .nil
  · intro v vs d ds _ _ ih1 ih2 q
    have q2 : (noInt d && noInts ds) = true := q
    rw [Bool.and_eq_true] at q2
    exact .cons (ih1 q2.1) (ih2 q2.2)
theorem Dt.off {H H' : Hp} {p : Addr} {n : Nat} (hp : SrcAt H p n) {v : V} {d : PyData} (h : Dt H v d) (q : noInt d = true) (o : Off p H H') : Dt H' v d := ((h.del hp q).same (off_same o)).same del_sub
theorem PlT.del {H : Hp} {p a : Addr} {n : Nat} {xs : List V} (hp : SrcAt H p n) (h : PlT H a xs) : PlT (L2.del H p) a xs := by
  obtain ⟨o, e, d, c⟩ := h
  have ne : a ≠ p := by
    obtain ⟨x1, x2, x3, e2, _⟩ := hp
    exact ne_of e e2 (by intro z; cases z)
  exact ⟨o, by rw [del_ne ne]; exact e, d, c⟩
theorem knds_del {H : Hp} {p : Addr} {n : Nat} (hp : SrcAt H p n) {ws : List V} {ks : List KRow} (h : Paired (KndP H) ws ks) : Paired (KndP (L2.del H p)) ws ks := L2.Paired.mapP h fun _ _ ⟨q, t, e, a, b⟩ => ⟨q, t, e, TupAt.del hp a, PlT.del hp b⟩
theorem knds_off {H H' : Hp} {p : Addr} {n : Nat} (hp : SrcAt H p n) {ws : List V} {ks : List KRow} (h : Paired (KndP H) ws ks) (o : Off p H H') : Paired (KndP H') ws ks := knds_same del_sub (knds_same (off_same o) (knds_del hp h))
/-- a list of other things than the source's numbers is not the source -/
theorem lst_src {H : Hp} {p a : Addr} {n : Nat} {xs : List V} (hp : SrcAt H p n) (h : H a = some (.lst xs)) (q : ∀ x, xs[0]? ≠ some (.int x)) : a ≠ p := fun z => by
  obtain ⟨x1, x2, x3, e2, _⟩ := hp
  rw [← z, h] at e2
  injection e2 with e2
  injection e2 with e2
  subst e2
  exact q x1 rfl
theorem knds_src {H : Hp} {p a : Addr} {n : Nat} {ws : List V} {ks : List KRow} (hp : SrcAt H p n) (h : H a = some (.lst ws)) (kn : Paired (KndP H) ws ks) : a ≠ p := lst_src hp h fun x e => by
  obtain ⟨k, _, q, t, e2, _⟩ := paired_at kn e
  cases e2
theorem StkP.del {C : Addr} {H : Hp} {p a : Addr} {n : Nat} {rows : Rows2} {ks : List KRow} (hp : SrcAt H p n) (x : StkP C H a rows ks) : StkP C (L2.del H p) a rows ks := by
  obtain ⟨⟨dx, l, m, e, dl, dm⟩, f1, f2⟩ := x.g.at_
  have ne : a ≠ p := by
    obtain ⟨x1, x2, x3, e2, _⟩ := hp
    exact ne_of e e2 (by intro z; cases z)
  refine ⟨⟨⟨⟨dx, l, m, by rw [del_ne ne]; exact e, dl.del hp (noInt_rows rows), dm.del hp (noInt_kinds ks)⟩, f1, f2⟩, x.g.nd, x.g.nr⟩, fun dx' l' m' e' => ?_⟩
  rw [del_ne ne] at e'
  obtain ⟨ws, h1, h2⟩ := x.pl _ _ _ e'
  exact ⟨ws, by rw [del_ne (knds_src hp h1 h2)]; exact h1, knds_del hp h2⟩
theorem StkP.off {C : Addr} {H H' : Hp} {p a : Addr} {n : Nat} {rows : Rows2} {ks : List KRow} (hp : SrcAt H p n) (x : StkP C H a rows ks) (o : Off p H H') : StkP C H' a rows ks := ((x.del hp).same (off_same o)).same del_sub
theorem cut_ints (ns : List Int) (k : Nat) (z : V) (h : z ∈ cutV (ns.map V.int) none (some (k : Int))) : ∃ n : Int, z = .int n := by
  unfold cutV at h
  have h2 := List.mem_of_mem_drop (List.mem_of_mem_take h)
  rw [List.mem_map] at h2
  obtain ⟨n, _, e⟩ := h2
  exact ⟨n, e.symm⟩
/-- how deep, and without dicts -/
structure Low (n : Nat) (d : PyData) : Prop where
  nd : noDict d = true
  dep : PyData.depth d ≤ n
theorem low_list {ds : List PyData} (f : Flat ds) : Low 9 (.list ds) := ⟨f.nd, by have := f.dep; show PyData.depthAll ds + 1 ≤ 9; omega⟩
theorem neD_same {K : PySem.W.Frag} {H : Hp} {Q : VK} {x y : V} {d : PyData} (h1 : Dt H x d) (h2 : Dt H y d) (l : Low 20 d) (q : Q (.bl false) H) : rNeD K x y H Q := by
  have c := h1.can l.nd
  have sh : SeqAt.shaped d = true := by
    unfold SeqAt.shaped
    rw [c, decide_eq_true (by have := l.dep; omega)]
    rfl
  exact ⟨d, d, h1.dp l.nd, h2.dp l.nd, sh, sh, by rw [PySem.SeqAt.eqv_refl d c]; exact q⟩
theorem low_strs (xs : List Str) : Low 20 (.list (xs.map .str)) := by
  refine ⟨noDicts_all fun d hd => ?_, ?_⟩
  · obtain ⟨x, _, rfl⟩ := List.mem_map.mp hd
    rfl
  · have q := depth_all (n := 0) (ds := xs.map PyData.str) fun d hd => by
      obtain ⟨x, _, rfl⟩ := List.mem_map.mp hd
      exact Nat.le_refl _
    show PyData.depthAll (xs.map .str) + 1 ≤ 20
    omega
theorem dt_lstrs {H : Hp} {t : Addr} {ys : List Str} (e : H t = some (.lst (ys.map V.str))) (hl : ys.length ≤ 1000) (h : ∀ x ∈ ys, nameS x = true) : Dt H (.ref t) (.list (ys.map .str)) := .lst e (by rw [List.length_map]; exact hl) (DtAll.strs ys fun x hx => okS_name (h x hx))
theorem corners_ok {keys cs : List Str} (l : cs.length ≤ 6) (h : ∀ x ∈ cs, x ∈ keys) (n : ∀ x ∈ cs, nameS x = true) : cornersD keys (.list (cs.map .str)) = true := by
  show (decide ((cs.map PyData.str).length ≤ 6) && (cs.map PyData.str).all fun d => nameD d && decide (strO d ∈ keys)) = true
  rw [List.length_map, decide_eq_true l, Bool.true_and, List.all_eq_true]
  intro d hd
  obtain ⟨x, hx, rfl⟩ := List.mem_map.mp hd
  show (nameS x && decide (x ∈ keys)) = true
  rw [n x hx, decide_eq_true (h x hx)]
  rfl
end Toy
set_option Elab.async false
set_option linter.all false
set_option maxRecDepth 100000
set_option maxHeartbeats 4000000
namespace Toy
open PySem PySem.Spec PyProof.Rows L2
/-! ### a comprehension of two fors, for by for -/
theorem it_by {J : It} {n : Nat} {G : Hp → Prop} {Y : Nat → Hp → V → Hp → Prop} (w : Walk J n G Y) {R : Hp → Prop} {H0 : Hp} {step : V → Hp → (Hp → Prop) → Prop} (Pv : Nat → Hp → Prop) (h0 : Pv 0 H0) (hG : ∀ i H, i ≤ n → Pv i H → G H)
    (hs : ∀ i x H H', i < n → Pv i H → Y i H x H' → step x H' (Pv (i + 1))) (hd : ∀ H, Pv n H → R H) :
    ∃ W : Nat → Nat → Hp → Prop, (∃ m, W 0 m H0) ∧ ∀ i m H, W i m H →
      (J.stop i H ∧ R H) ∨ (J.go i H ∧ ∃ Nx : Hp → Prop, (∀ H', Nx H' → ∃ m', m' < m ∧ W (i + 1) m' H') ∧ ∀ x H', J.yld i H x H' → step x H' Nx) := by
  refine ⟨fun i m H => m = n - i ∧ i ≤ n ∧ Pv i H, ⟨n, by simp, Nat.zero_le _, h0⟩, ?_⟩
  rintro i m H ⟨rfl, hi, p⟩
  have q := hG i H hi p
  by_cases hlt : i < n
  · exact .inr ⟨w.goes i H hlt q, Pv (i + 1), fun H' p' => ⟨n - (i + 1), by omega, rfl, hlt, p'⟩, fun x H' y => hs i x H H' hlt p (w.yields i H x H' hlt q y)⟩
  · have e : i = n := by omega
    subst e
    exact .inl ⟨w.stops H q, hd H p⟩
/-! ### all ends -/
/-- the ends of a kind -/
def kEnds (ks : List KRow) (c : Str) : List Str := match ks.find? fun k => decide (k.1 = c) with
  | some k => k.2
  | none => []
theorem kEnds_of {ks : List KRow} {k : KRow} (nd : (ks.map (·.1)).Nodup) (hk : k ∈ ks) : kEnds ks k.1 = k.2 := by
  unfold kEnds
  have e : ks.find? (fun r => decide (r.1 = k.1)) = some k := by
    induction ks with
    | nil => exact nomatch hk
    | cons a ks ih =>
      rw [List.map_cons, List.nodup_cons] at nd
      by_cases h : a.1 = k.1
      · rcases List.mem_cons.mp hk with z | z
        · rw [List.find?_cons_of_pos (by rw [h]; exact decide_eq_true rfl), z]
        · exact absurd (by rw [h]; exact List.mem_map_of_mem (f := fun k : KRow => k.1) z) nd.1
      · rcases List.mem_cons.mp hk with z | z
        · exact absurd (by rw [z]) h
        · rw [List.find?_cons_of_neg (by simpa using h)]
          exact ih nd.2 z
  rw [e]
/-- corner by corner -/
def cornE (ks : List KRow) : Nat → List Str → List (Nat × Str)
  | _, [] => []
  | i, c :: cs => (kEnds ks c).map (fun s => (i, s)) ++ cornE ks (i + 1) cs
def legE : Nat → Rows2 → List (Nat × Str)
  | _, [] => []
  | i, g :: lg => (i, g.2) :: legE (i + 1) lg
theorem cornE_snoc (ks : List KRow) (c : Str) : ∀ (cs : List Str) (i : Nat), cornE ks i (cs ++ [c]) = cornE ks i cs ++ (kEnds ks c).map fun s => (i + cs.length, s)
  | [], i => by
    show (kEnds ks c).map _ ++ [] = [] ++ _
    rw [List.append_nil, List.nil_append]
    rfl
  | a :: cs, i => by
    show _ ++ cornE ks (i + 1) (cs ++ [c]) = (_ ++ cornE ks (i + 1) cs) ++ _
    rw [cornE_snoc ks c cs (i + 1), List.append_assoc, List.length_cons]
    have e : i + 1 + cs.length = i + (cs.length + 1) := by omega
    rw [e]
theorem legE_snoc (g : Str × Str) : ∀ (lg : Rows2) (i : Nat), legE i (lg ++ [g]) = legE i lg ++ [(i + lg.length, g.2)]
  | [], i => rfl
  | a :: lg, i => by
    show (i, a.2) :: legE (i + 1) (lg ++ [g]) = ((i, a.2) :: legE (i + 1) lg) ++ _
    rw [legE_snoc g lg (i + 1), List.length_cons]
    have e : i + 1 + lg.length = i + (lg.length + 1) := by omega
    rw [e]
    rfl
def allE (ks : List KRow) (cs : List Str) (lg : Rows2) : List (Nat × Str) := cornE ks 0 cs ++ legE cs.length lg
theorem legE_sorts : ∀ (lg : Rows2) (i : Nat), (legE i lg).map (·.2) = lg.map (·.2)
  | [], _ => rfl
  | g :: lg, i => by
    show g.2 :: (legE (i + 1) lg).map (·.2) = _
    rw [legE_sorts lg (i + 1)]
    rfl
theorem cornE_sorts (ks : List KRow) : ∀ (cs : List Str) (i : Nat), (cornE ks i cs).map (·.2) = cs.flatMap (kEnds ks)
  | [], _ => rfl
  | c :: cs, i => by
    show ((kEnds ks c).map (fun s => (i, s)) ++ cornE ks (i + 1) cs).map (·.2) = _
    rw [List.map_append, cornE_sorts ks cs (i + 1), List.flatMap_cons, List.map_map]
    congr 1
    exact List.map_id'' (fun _ => rfl) _
theorem cornE_len {ks : List KRow} (h5 : ∀ k ∈ ks, k.2.length ≤ 5) : ∀ (cs : List Str) (i : Nat), (cornE ks i cs).length ≤ 5 * cs.length
  | [], _ => Nat.zero_le _
  | c :: cs, i => by
    show ((kEnds ks c).map (fun s => (i, s)) ++ cornE ks (i + 1) cs).length ≤ 5 * (cs.length + 1)
    have ih := cornE_len h5 cs (i + 1)
    have e : (kEnds ks c).length ≤ 5 := by
      unfold kEnds
      cases q : ks.find? fun k => decide (k.1 = c) with
      | none => exact Nat.zero_le _
      | some k => exact h5 k (List.mem_of_find?_eq_some q)
    rw [List.length_append, List.length_map]
    omega
/-- an end, as a tuple -/
def EndP (H : Hp) (v : V) (e : Nat × Str) : Prop := ∃ q, v = .ref q ∧ TupAt H q [.int (e.1 : Nat), .str e.2]
def EndsAt (H : Hp) (vs : List V) (es : List (Nat × Str)) : Prop := Paired (EndP H) vs es
theorem EndsAt.same {H H' : Hp} (s : Same H H') {vs : List V} {es : List (Nat × Str)} (h : EndsAt H vs es) : EndsAt H' vs es := L2.Paired.mapP h fun _ _ ⟨q, e, t⟩ => ⟨q, e, t.same s⟩
theorem EndsAt.len {H : Hp} {vs : List V} {es : List (Nat × Str)} (h : EndsAt H vs es) : vs.length = es.length := (show Paired (EndP H) vs es from h).length
theorem EndsAt.app {H : Hp} : ∀ {vs ws : List V} {es fs : List (Nat × Str)}, EndsAt H vs es → EndsAt H ws fs → EndsAt H (vs ++ ws) (es ++ fs)
  | _, _, _, _, .nil, h => h
  | _, _, _, _, .cons a t, h => .cons a (EndsAt.app t h)
theorem same_del' {H : Hp} {D : Addr} {o : HO} (n : H D = none) : Same H (del (upd H D o) D) := fun b x e => by
  have nb := ne_of_none e n
  rw [del_ne nb, upd_ne nb]
  exact e
theorem del_upd_same {H : Hp} {D : Addr} {o : HO} : Same (del H D) (del (upd H D o) D) := fun b x e => by
  by_cases q : b = D
  · rw [q, del_same] at e
    cases e
  · rw [del_ne q] at e ⊢
    rw [upd_ne q]
    exact e
def spAllEnds (C : Addr) : Sp := fun vs H Q _ => ∃ (a c g : Addr) (rows : Rows2) (ks : List KRow) (cs : List Str) (lg : Rows2), vs = [.ref a, .ref c, .ref g] ∧ StkP C H a rows ks ∧ (∀ k ∈ ks, k.2.length ≤ 5) ∧ H c = some (.lst (cs.map V.str)) ∧ cs.length ≤ 6 ∧
  (∀ x ∈ cs, x ∈ ks.map (·.1)) ∧ Dt H (.ref g) (.list (lg.map rowT)) ∧ lg.length ≤ 6 ∧ ∀ p H' vs, H p = none → Same H H' → H' p = some (.lst vs) → EndsAt H' vs (allE ks cs lg) → Q (.ref p) H'
section
variable {P : Program} {w : World} {K : PySem.W.Frag} {mg : Str → Option Value} {base : Heap}
abbrev aeN : List Str := ["stock", "corners", "legs", "kinds", "ends", "place", "kind", "sort", "at", "leg"]
theorem scAllEnds : FnScope aeN ["stock", "corners", "legs"] (defScope sAllEnds) := ⟨rfl, rfl, rfl, by decide +kernel, rfl, by decide +kernel, by decide +kernel⟩
theorem ok_allEnds {f fX C CS : Addr} {fd : FuncData} (F : Fun K "all_ends" "all_ends" sAllEnds f fd) (M : Mods mg) (T : StkC K mg C CS fX) (mEn : mg "enumerate" = none) :
    FnOk P w K mg base CX0 1 f fd ["stock", "corners", "legs"] (spAllEnds C) := by
  refine F.ok scAllEnds (fun vs H Q E h => ?_) (fun cdv A outer s H vs Q E hr h => ?_)
  · obtain ⟨a, c, g, rows, ks, cs, lg, rfl, _⟩ := h
    rfl
  · obtain ⟨a, c, g, rows, ks, cs, lg, rfl, sg, k5, hc, l6, hcs, dg, lg6, k⟩ := h
    refine ⟨_, pss_cons (ps_set (i := 3) scAllEnds.nd rfl (Or.inr rfl) (pe_callTy (call_dictP rfl) (by rfl) M.dict_ (by decide +kernel) (pa_cons (pe_fld (pv 0) rfl) pa_nil)))
      (pss_cons (ps_setLc2 (i := 4) (own := [("place", 5), ("kind", 6), ("sort", 7)]) (vs1 := [7]) (g := gTup K 2 (gCons (gName 5) (gCons (gName 6) gNil))) (tt := tYes) (wi1 := iTup K (tDGet (tVar 3) (tVar 6))) (g1 := gName 7) (tt1 := tYes) (te := tTup (tCons (tVar 5) (tCons (tVar 7) tNil))) rfl scAllEnds.nd rfl rfl (sw_true rfl rfl rfl (by decide +kernel)) (pi_enum (by rfl) mEn (pa_cons (pv 1) pa_nil)) (blkOk_by (N := aeN) (sc := defScope sAllEnds) (by decide +kernel)) (by decide)
        (fun _ _ _ _ _ => pg_tup rfl (pgs_cons (pg_name (i := 5) scAllEnds.nd rfl (Or.inl rfl)) (pgs_cons (pg_name (i := 6) scAllEnds.nd rfl (Or.inl rfl)) pgs_nil))) (fun _ _ _ _ _ => pts_nil)
        (fun _ _ _ _ _ => (by exact pi_tup (pe_dget (hu_of hr) (pv 3) (pv 6) (fun _ _ => rfl)))) (fun _ _ _ _ _ => pg_name (i := 7) scAllEnds.nd rfl (Or.inl rfl)) (fun _ _ _ _ _ => pts_nil)
        (fun _ _ _ _ _ => (by exact pe_tup (pa_cons (pv 5) (pa_cons (pv 7) pa_nil)))))
      (pss_one (ps_ret (pe_op op_cat (pv 4) (pe_lc (own := [("at", 8), ("leg", 9)]) (g := gTup K 2 (gCons (gName 8) (gCons (gName 9) gNil))) (tt := tYes) (te := tTup (tCons (tOp (rI0 fun i j => .int (i + j)) (tCB (rLen K) (tCons (tVar 1) tNil)) (tVar 8)) (tCons (tOp (rIxT K) (tVar 9) (tC (.int 1))) tNil))) rfl scAllEnds.nd (pi_enum (by rfl) mEn (pa_cons (pv 2) pa_nil)) (blkOk_by (N := aeN) (sc := defScope sAllEnds) (by decide +kernel))
        (fun _ _ _ _ _ => pg_tup rfl (pgs_cons (pg_name (i := 8) scAllEnds.nd rfl (Or.inl rfl)) (pgs_cons (pg_name (i := 9) scAllEnds.nd rfl (Or.inl rfl)) pgs_nil))) (fun _ _ _ _ _ => pts_nil)
        (fun _ _ _ _ _ => (by exact pe_tup (pa_cons (pe_op op_add (pe_callB call_len_seq (by rfl) M.len PySem.boot_len (pa_cons (pv 1) pa_nil)) (pv 8)) (pa_cons (pe_ix ix_tup (pv 9) pe_int (fun _ _ => rfl)) pa_nil))))))))), ?_⟩
    obtain ⟨⟨dx, l, m, ea, _, _⟩, _⟩ := sg.g.at_
    obtain ⟨ws, em, kn⟩ := sg.pl _ _ _ ea
    obtain ⟨ps, kts, exs, ekt, pr, okt⟩ := knds_pairs (K := K) kn
    subst exs
    refine ⟨_, rfl, a, C, dx, _, _, rfl, ea, T.cl, T.nK, sf_kinds _ _, m, ps, _, rfl, SqL.of em, pr, fun dp hdp => ?_⟩
    rw [dict_kts (by rw [ekt]; exact sg.g.nd)]
    have t1 := same_new (o := .dK (kts.map kvK)) hdp
    have hd1 : upd H dp (.dK (kts.map kvK)) dp = some (.dK (kts.map kvK)) := upd_same
    generalize upd H dp (.dK (kts.map kvK)) = H1 at t1 hd1 ⊢
    refine ⟨_, rfl, c, _, rfl, SqL.of (t1 _ _ hc), fun D nD => ?_⟩
    have nDc : ∀ {G : Hp}, Same H1 G → c ≠ D := fun _ => ne_of_none (t1 _ _ hc) nD
    refine it_by walk_enum (fun i H' => Same H1 (del H' D) ∧ ∃ vs, H' D = some (.lst vs) ∧ EndsAt (del H' D) vs (cornE ks 0 (cs.take i))) ⟨?_, [], upd_same, .nil⟩ (fun i H' _ h => SqL.of (del_sub _ _ (h.1 _ _ (t1 _ _ hc)))) ?_ ?_
    · exact same_del' nD
    · rintro i x H2 H3 hi ⟨s2, vs, hD2, ev⟩ ⟨Tq, u, v, rfl, nT, rfl, hu, hv⟩
      cases hu
      obtain ⟨z, hz, rfl⟩ := map_str_at hv
      have nTD : Tq ≠ D := (ne_of_none hD2 nT).symm
      have t3 := same_new (o := .tup [.int (i : Nat), .str z]) nT
      have hD3 := t3 _ _ hD2
      refine ⟨Tq, _, rfl, SqT.of upd_same, rfl, _, _, rfl, _, _, rfl, rfl, ?_⟩
      have s3 : Same H1 (del (upd H2 Tq (.tup [.int (i : Nat), .str z])) D) := s2.trans (same_del t3)
      have ev3 := ev.same (same_del (l := D) t3)
      generalize upd H2 Tq (.tup [.int (i : Nat), .str z]) = H3 at t3 hD3 s3 ev3 ⊢
      refine ⟨rfl, ?_⟩
      delta tYes
      dsimp only
      rw [if_pos rfl]
      have hzc : z ∈ cs := List.mem_of_getElem? hz
      obtain ⟨kt, hkt, ez, ekv⟩ := kts_val kts z (by rw [ekt]; exact hcs z hzc)
      have hkm : kt.1 ∈ ks := by rw [← ekt]; exact List.mem_map_of_mem (f := (·.1)) hkt
      have eks : kEnds ks z = kt.1.2 := by rw [← ez]; exact kEnds_of sg.g.nd hkm
      have pt := (okt kt hkt).same t1
      have e5 := k5 _ hkm
      have li : i < cs.length := by rw [List.length_map] at hi; exact hi
      have cl := cornE_len k5 (cs.take i) 0
      rw [List.length_take] at cl
      refine ⟨_, rfl, _, rfl, dp, .ref kt.2, rfl, ?_, kt.2, rfl, ⟨_, ((pt.same s3).same del_sub).sq⟩, ?_⟩
      · rw [← ekv]
        exact DGet.k (k := Sum.inr z) (del_sub _ _ (s3 _ _ hd1))
      refine it_by (walk_tup (K := K) (a := kt.2) (xs := kt.1.2.map V.str)) (fun j H' => Same H1 (del H' D) ∧ ∃ vs, H' D = some (.lst vs) ∧ EndsAt (del H' D) vs (cornE ks 0 (cs.take i) ++ (kt.1.2.take j).map fun s => (i, s))) ⟨s3, vs, hD3, ?_⟩ (fun j H' _ h => ((pt.same h.1).same del_sub).sq) ?_ ?_
      · rw [List.take_zero, List.map_nil, List.append_nil]
        exact ev3
      · rintro j x H4 H5 hj ⟨s4, vs4, hD4, ev4⟩ hy
        obtain ⟨rfl, hy⟩ := hy
        obtain ⟨y, hy2, rfl⟩ := map_str_at hy
        rw [List.length_map] at hj
        refine ⟨rfl, ?_⟩
        rw [if_pos rfl]
        refine ⟨_, rfl, _, rfl, by show 2 ≤ sizeLine; decide, fun tq ntq => ?_⟩
        have ntD : tq ≠ D := (ne_of_none hD4 ntq).symm
        have t6 := same_new (o := .tup [.int (i : Nat), .str y]) ntq
        have htq : upd H5 tq (.tup [.int (i : Nat), .str y]) tq = some (.tup [.int (i : Nat), .str y]) := upd_same
        have hD6 := t6 _ _ hD4
        have s6 := s4.trans (same_del (l := D) t6)
        have ev6 := ev4.same (same_del (l := D) t6)
        generalize upd H5 tq (.tup [.int (i : Nat), .str y]) = H6 at t6 htq hD6 s6 ev6 ⊢
        have lvs : vs4.length ≤ 40 := by
          have q := ev4.len
          rw [List.length_append, List.length_map, List.length_take] at q
          omega
        have sd : Same (del H6 D) (del (upd H6 D (.lst (vs4 ++ [.ref tq]))) D) := del_upd_same
        refine ⟨vs4, hD6, small1000 (by omega), s6.trans sd, vs4 ++ [.ref tq], upd_same, ?_⟩
        rw [take_snoc hy2, List.map_append, ← List.append_assoc]
        refine (ev6.same sd).app (.cons ⟨tq, rfl, .of ?_⟩ .nil)
        rw [del_ne ntD, upd_ne ntD]
        exact htq
      · rintro H4 ⟨s4, vs4, hD4, ev4⟩
        rw [List.length_map, List.take_of_length_le (Nat.le_refl _)] at ev4
        refine ⟨s4, vs4, hD4, ?_⟩
        rw [take_snoc hz, cornE_snoc, eks, List.length_take, Nat.zero_add, Nat.min_eq_left (Nat.le_of_lt li)]
        exact ev4
    · rintro H2 ⟨s2, vs, hD2, ev⟩
      rw [List.length_map, List.take_of_length_le (Nat.le_refl _)] at ev
      -- behind the corners the legs
      obtain ⟨gs, hg, lgs, rg⟩ := dt_list dg
      have s12 := s2.trans del_sub
      have nD0 : H D = none := t1.free nD
      refine ⟨_, rfl, _, rfl, g, gs, rfl, SqL.of (s12 _ _ (t1 _ _ hg)), fun D2 nD2 => ?_⟩
      have nDD : D ≠ D2 := ne_of_none hD2 nD2
      have ngs : gs.length = lg.length := by rw [rg.len, List.length_map]
      have n2 : H D2 = none := (t1.trans s12).free nD2
      refine lc_it walk_enum (fun j H' => Same H2 (del H' D2) ∧ ∃ vs2, H' D2 = some (.lst vs2) ∧ EndsAt (del H' D2) vs2 (legE cs.length (lg.take j))) ⟨same_del' nD2, [], upd_same, .nil⟩ (fun j H' _ h => SqL.of (del_sub _ _ (h.1 _ _ (s12 _ _ (t1 _ _ hg))))) ?_ ?_
      · rintro j x H3 H4 hj ⟨s3, vs3, hD3, ev3⟩ ⟨Tq, u, v, rfl, nT, rfl, hu, hv⟩
        cases hu
        obtain ⟨gr, hgr⟩ : ∃ gr, lg[j]? = some gr := ⟨lg[j], List.getElem?_eq_getElem (by omega)⟩
        obtain ⟨q, rfl, tq⟩ := row_at rg hv hgr
        have nTD : Tq ≠ D2 := (ne_of_none hD3 nT).symm
        have t4 := same_new (o := .tup [.int (j : Nat), .ref q]) nT
        have hD4 := t4 _ _ hD3
        have s4 := s3.trans (same_del (l := D2) t4)
        have ev4 := ev3.same (same_del (l := D2) t4)
        refine ⟨Tq, _, rfl, SqT.of upd_same, rfl, _, _, rfl, _, _, rfl, rfl, ?_⟩
        generalize upd H3 Tq (.tup [.int (j : Nat), .ref q]) = H4 at t4 hD4 s4 ev4 ⊢
        refine ⟨rfl, ?_⟩
        delta tYes
        dsimp only
        rw [if_pos rfl]
        have tq4 := ((tq.same (t1.trans s12)).same s4).same del_sub
        have hc4 := del_sub _ _ (s4 _ _ (s12 _ _ (t1 _ _ hc)))
        refine ⟨_, rfl, c, _, rfl, .inl (SqL.of hc4), _, rfl, _, _, rfl, rfl, _, rfl, q, _, 1, _, rfl, rfl, tq4.sq, ix1, by show 2 ≤ sizeLine; decide, fun te nte => ?_⟩
        rw [List.length_map]
        have ntD : te ≠ D2 := (ne_of_none hD4 nte).symm
        have t6 := same_new (o := .tup [.int ((cs.length : Nat) + (j : Nat)), .str gr.2]) nte
        have htq : upd H4 te (.tup [.int ((cs.length : Nat) + (j : Nat)), .str gr.2]) te = some (.tup [.int ((cs.length : Nat) + (j : Nat)), .str gr.2]) := upd_same
        have hD6 := t6 _ _ hD4
        have s6 := s4.trans (same_del (l := D2) t6)
        have ev6 := ev4.same (same_del (l := D2) t6)
        generalize upd H4 te (.tup [.int ((cs.length : Nat) + (j : Nat)), .str gr.2]) = H6 at t6 htq hD6 s6 ev6 ⊢
        have lvs : vs3.length ≤ 40 := by
          have q := ev3.len
          have q2 : (legE cs.length (lg.take j)).length = (lg.take j).length := by
            have q3 := congrArg List.length (legE_sorts (lg.take j) cs.length)
            rw [List.length_map, List.length_map] at q3
            exact q3
          rw [q2, List.length_take] at q
          omega
        have sd : Same (del H6 D2) (del (upd H6 D2 (.lst (vs3 ++ [.ref te]))) D2) := del_upd_same
        refine ⟨vs3, hD6, small1000 (by omega), s6.trans sd, vs3 ++ [.ref te], upd_same, ?_⟩
        rw [take_snoc hgr, legE_snoc, List.length_take, Nat.min_eq_left (by omega)]
        refine (ev6.same sd).app (.cons ⟨te, rfl, .of ?_⟩ .nil)
        rw [del_ne ntD, upd_ne ntD]
        exact htq
      · rintro H3 ⟨s3, vs3, hD3, ev3⟩
        rw [ngs, List.take_of_length_le (Nat.le_refl _)] at ev3
        have sAll := s3.trans del_sub
        have hD3' := sAll _ _ hD2
        have evA := ((ev.same del_sub).same sAll).app (ev3.same del_sub)
        have lA := evA.len
        have l1 := cornE_len k5 cs 0
        have q3 := congrArg List.length (legE_sorts lg cs.length)
        rw [List.length_map, List.length_map] at q3
        refine ⟨D, D2, vs, vs3, rfl, rfl, hD3', hD3, ?_, fun R nR => ?_⟩
        · rw [← List.length_append, lA, List.length_append, q3]
          exact Nat.le_trans (Nat.add_le_add l1 lg6) (Nat.le_trans (Nat.add_le_add (Nat.mul_le_mul (Nat.le_refl 5) l6) (Nat.le_refl 6)) (by decide))
        · have t9 := same_new (o := .lst (vs ++ vs3)) nR
          have sT := ((t1.trans s12).trans sAll).trans t9
          exact k R _ _ (((t1.trans s12).trans sAll).free nR) sT upd_same (evA.same t9)
end
end Toy
set_option Elab.async false
set_option linter.all false
set_option maxRecDepth 100000
set_option maxHeartbeats 2000000
namespace Toy
open PySem PySem.Spec PyProof.Rows L2
/-! ### products -/
abbrev facN : Nat → Nat := Builtin.Math.factorialNat
theorem fac_succ (n : Nat) : facN (n + 1) = facN n * (n + 1) := PySem.W.mc_fac_succ n
def prodN : List Nat → Nat
  | [] => 1
  | x :: xs => x * prodN xs
theorem prodN_app : ∀ xs ys : List Nat, prodN (xs ++ ys) = prodN xs * prodN ys
  | [], ys => (Nat.one_mul _).symm
  | x :: xs, ys => by
    show x * prodN (xs ++ ys) = x * prodN xs * prodN ys
    rw [prodN_app xs ys, Nat.mul_assoc]
theorem prod_same {α : Type} (f g : α → Nat) : ∀ l : List α, (∀ a ∈ l, f a = g a) → prodN (l.map f) = prodN (l.map g)
  | [], _ => rfl
  | a :: l, h => by
    show f a * prodN (l.map f) = g a * prodN (l.map g)
    rw [h a List.mem_cons_self, prod_same f g l fun b hb => h b (List.mem_cons_of_mem _ hb)]
theorem prod_bump {α : Type} (f g : α → Nat) (key : α → Str) (s : Str) (m : Nat) : ∀ l : List α, (l.map key).Nodup → s ∈ l.map key → (∀ a ∈ l, key a ≠ s → f a = g a) → (∀ a ∈ l, key a = s → f a = g a * m) → prodN (l.map f) = prodN (l.map g) * m
  | [], _, hs, _, _ => nomatch hs
  | a :: l, nd, hs, h1, h2 => by
    show f a * prodN (l.map f) = g a * prodN (l.map g) * m
    rw [List.map_cons, List.nodup_cons] at nd
    by_cases e : key a = s
    · have q : prodN (l.map f) = prodN (l.map g) := prod_same f g l fun b hb => h1 b (List.mem_cons_of_mem _ hb) fun z => nd.1 (by rw [e, ← z]; exact List.mem_map_of_mem (f := key) hb)
      rw [h2 a List.mem_cons_self e, q]
      rw [Nat.mul_assoc, Nat.mul_comm m, ← Nat.mul_assoc]
    · have hs' : s ∈ l.map key := by
        rcases List.mem_cons.mp hs with z | z
        · exact absurd z.symm e
        · exact z
      rw [h1 a List.mem_cons_self e, prod_bump f g key s m l nd.2 hs' (fun b hb => h1 b (List.mem_cons_of_mem _ hb)) (fun b hb => h2 b (List.mem_cons_of_mem _ hb)), Nat.mul_assoc]
/-- the ways to change ends of a sort about -/
def endsN (rows : Rows2) (es : List Str) : Nat := prodN (rows.map fun r => facN (es.count r.1))
/-- the ways to change corners of a kind, and their ends, about -/
def grpN (rows : Rows2) (ks : List KRow) (cs : List Str) : Nat := prodN (ks.map fun k => facN (cs.count k.1) * endsN rows k.2 ^ cs.count k.1)
theorem count_snoc (es : List Str) (s x : Str) : (es ++ [s]).count x = es.count x + if s = x then 1 else 0 := by
  rw [List.count_append]
  congr 1
  by_cases e : s = x
  · rw [if_pos e, e]
    simp
  · rw [if_neg e]
    exact List.count_eq_zero.mpr fun z => e (List.mem_singleton.mp z).symm
theorem ends_bump {rows : Rows2} {es : List Str} {s : Str} (nd : (rows.map (·.1)).Nodup) (hs : s ∈ rows.map (·.1)) : endsN rows (es ++ [s]) = endsN rows es * (1 + es.count s) := by
  unfold endsN
  refine prod_bump _ _ (fun r : Str × Str => r.1) s _ rows nd hs (fun r _ h => ?_) (fun r _ h => ?_)
  · rw [count_snoc, if_neg (fun z => h z.symm)]
    rfl
  · rw [count_snoc, if_pos h.symm, fac_succ, h, Nat.add_comm 1]
theorem ends_nil (rows : Rows2) : endsN rows [] = 1 := by
  unfold endsN
  induction rows with
  | nil => rfl
  | cons r rows ih =>
    show facN 0 * prodN (rows.map fun r => facN (([] : List Str).count r.1)) = 1
    rw [ih]
    rfl
theorem grp_bump {rows : Rows2} {ks : List KRow} {cs : List Str} {k : KRow} (nd : (ks.map (·.1)).Nodup) (hk : k ∈ ks) : grpN rows ks (cs ++ [k.1]) = grpN rows ks cs * ((1 + cs.count k.1) * endsN rows k.2) := by
  unfold grpN
  refine prod_bump _ _ (fun k : KRow => k.1) k.1 _ ks nd (List.mem_map_of_mem (f := fun k : KRow => k.1) hk) (fun r _ h => ?_) (fun r hr h => ?_)
  · rw [count_snoc, if_neg (fun z => h z.symm)]
    rfl
  · have e : r = k := by
      have key : ∀ {l : List KRow}, (l.map (·.1)).Nodup → r ∈ l → k ∈ l → r = k := by
        intro l nd hr hk
        induction l with
        | nil => exact nomatch hr
        | cons a l ih =>
          rw [List.map_cons, List.nodup_cons] at nd
          rcases List.mem_cons.mp hr with z1 | z1
          · rcases List.mem_cons.mp hk with z2 | z2
            · rw [z1, z2]
            · exact absurd (by rw [← z1, h]; exact List.mem_map_of_mem (f := fun k : KRow => k.1) z2) nd.1
          · rcases List.mem_cons.mp hk with z2 | z2
            · exact absurd (by rw [← z2, ← h]; exact List.mem_map_of_mem (f := fun k : KRow => k.1) z1) nd.1
            · exact ih nd.2 z1 z2
      exact key nd hr hk
    rw [e, count_snoc, if_pos rfl, fac_succ, Nat.pow_succ]
    generalize facN (cs.count k.1) = a
    generalize endsN rows k.2 = b
    generalize cs.count k.1 = c
    rw [Nat.add_comm c 1]
    generalize 1 + c = d
    generalize b ^ c = e
    simp only [Nat.mul_assoc, Nat.mul_comm, Nat.mul_left_comm]
theorem grp_perm {rows : Rows2} {ks : List KRow} {cs ds : List Str} (p : cs.Perm ds) : grpN rows ks cs = grpN rows ks ds := by
  unfold grpN
  exact prod_same _ _ ks fun k _ => by rw [p.count_eq]
theorem grp_nil (rows : Rows2) (ks : List KRow) : grpN rows ks [] = 1 := by
  unfold grpN
  induction ks with
  | nil => rfl
  | cons k ks ih =>
    show facN 0 * endsN rows k.2 ^ 0 * prodN (ks.map fun k => facN (([] : List Str).count k.1) * endsN rows k.2 ^ ([] : List Str).count k.1) = 1
    rw [ih, Nat.pow_zero]
    rfl
end Toy
set_option Elab.async false
set_option linter.all false
set_option maxRecDepth 100000
set_option maxHeartbeats 2000000
namespace Toy
open PySem PySem.Spec PyProof.Rows L2
/-! ### ways to pair -/
def waysA : Nat → Nat
  | 0 => 1
  | 1 => 0
  | n + 2 => (n + 1) * waysA n
def waysX (n m : Nat) : Nat := if n = m then facN n else 0
def ltS (a b : Str) : Bool := decide (a.cps.toList < b.cps.toList)
theorem ltS_one {a b : Str} (h : a ≠ b) : ltS a b = true ∨ ltS b a = true := by
  unfold ltS
  by_cases h1 : a.cps.toList < b.cps.toList
  · exact .inl (decide_eq_true h1)
  · by_cases h2 : b.cps.toList < a.cps.toList
    · exact .inr (decide_eq_true h2)
    · exact absurd (str_ext (List.le_antisymm (List.not_lt.mp h2) (List.not_lt.mp h1))) h
theorem ltS_not {a b : Str} (h : ltS a b = true) : ltS b a = false := by
  unfold ltS at *
  exact decide_eq_false (List.lt_asymm (of_decide_eq_true h))
/-- one row's factor -/
def rowW (xs : List Str) (r : Str × Str) : Nat := if r.1 = r.2 then waysA (xs.count r.1) else if ltS r.1 r.2 = true then waysX (xs.count r.1) (xs.count r.2) else 1
def countW (rows : Rows2) (xs : List Str) : Nat := prodN (rows.map (rowW xs))
structure Mut (rows : Rows2) : Prop where
  nd : (rows.map (·.1)).Nodup
  mt : ∀ r ∈ rows, (r.2, r.1) ∈ rows
theorem Mut.one {rows : Rows2} (m : Mut rows) {r q : Str × Str} (hr : r ∈ rows) (hq : q ∈ rows) (e : r.1 = q.1) : r = q := by
  have key : ∀ {l : Rows2}, (l.map (·.1)).Nodup → r ∈ l → q ∈ l → r = q := by
    intro l nd hr hk
    induction l with
    | nil => exact nomatch hr
    | cons a l ih =>
      rw [List.map_cons, List.nodup_cons] at nd
      rcases List.mem_cons.mp hr with z1 | z1
      · rcases List.mem_cons.mp hk with z2 | z2
        · rw [z1, z2]
        · exact absurd (by rw [← z1, e]; exact List.mem_map_of_mem (f := fun k : Str × Str => k.1) z2) nd.1
      · rcases List.mem_cons.mp hk with z2 | z2
        · exact absurd (by rw [← z2, ← e]; exact List.mem_map_of_mem (f := fun k : Str × Str => k.1) z1) nd.1
        · exact ih nd.2 z1 z2
  exact key m.nd hr hq
/-- the row that tells of x and its partner -/
theorem Mut.row {rows : Rows2} (m : Mut rows) {x p : Str} (h : (x, p) ∈ rows) : ∃ r ∈ rows, (r = (x, p) ∨ r = (p, x)) ∧ (r.1 = r.2 ∨ ltS r.1 r.2 = true) := by
  by_cases e : x = p
  · exact ⟨_, h, .inl rfl, .inl e⟩
  · rcases ltS_one e with l | l
    · exact ⟨_, h, .inl rfl, .inr l⟩
    · exact ⟨_, m.mt _ h, .inr rfl, .inr l⟩
/-- other rows tell of other sorts -/
theorem Mut.other {rows : Rows2} (m : Mut rows) {x p : Str} {r q : Str × Str} (h : (x, p) ∈ rows) (hr : r ∈ rows) (er : r = (x, p) ∨ r = (p, x)) (lr : r.1 = r.2 ∨ ltS r.1 r.2 = true) (hq : q ∈ rows) (ne : q.1 ≠ r.1) (lq : q.1 = q.2 ∨ ltS q.1 q.2 = true) :
    q.1 ≠ x ∧ q.1 ≠ p ∧ q.2 ≠ x ∧ q.2 ≠ p := by
  have hp := m.mt _ h
  have key : ∀ {y z : Str}, (y, z) ∈ rows → q.1 = y → (y = x ∧ z = p ∨ y = p ∧ z = x) → False := by
    intro y z hy e c
    have e2 := m.one hq hy e
    subst e2
    rcases er with rfl | rfl
    · rcases c with ⟨c1, c2⟩ | ⟨c1, c2⟩
      · exact ne c1
      · subst c1 c2
        rcases lr with l | l
        · exact ne l.symm
        · rcases lq with l2 | l2
          · exact ne l2
          · rw [ltS_not l] at l2
            cases l2
    · rcases c with ⟨c1, c2⟩ | ⟨c1, c2⟩
      · subst c1 c2
        rcases lr with l | l
        · exact ne l.symm
        · rcases lq with l2 | l2
          · exact ne l2
          · rw [ltS_not l] at l2
            cases l2
      · exact ne c1
  have hq' := m.mt _ hq
  refine ⟨fun e => key h e (.inl ⟨rfl, rfl⟩), fun e => key hp e (.inr ⟨rfl, rfl⟩), fun e => ?_, fun e => ?_⟩
  · have e2 := m.one hq' h e
    injection e2 with _ e3
    exact key hp e3 (.inr ⟨rfl, rfl⟩)
  · have e2 := m.one hq' hp e
    injection e2 with _ e3
    exact key h e3 (.inl ⟨rfl, rfl⟩)
theorem prod_zero {α : Type} (f : α → Nat) : ∀ l : List α, (∃ a ∈ l, f a = 0) → prodN (l.map f) = 0
  | [], ⟨_, h, _⟩ => nomatch h
  | a :: l, ⟨b, hb, e⟩ => by
    show f a * prodN (l.map f) = 0
    rcases List.mem_cons.mp hb with z | z
    · rw [← z, e, Nat.zero_mul]
    · rw [prod_zero f l ⟨b, z, e⟩, Nat.mul_zero]
theorem cnt_ne {x y : Str} (h : y ≠ x) (xs : List Str) : (x :: xs).count y = xs.count y := List.count_cons_of_ne (fun e => h e.symm)
theorem cnt_eq (x : Str) (xs : List Str) : (x :: xs).count x = xs.count x + 1 := List.count_cons_self
theorem ways_pair {rows : Rows2} (m : Mut rows) {x p : Str} (h : (x, p) ∈ rows) (e : List Str) : countW rows (x :: p :: e) = countW rows e * (e.count p + 1) := by
  obtain ⟨r, hr, er, lr⟩ := m.row h
  unfold countW
  refine prod_bump _ _ (fun r : Str × Str => r.1) r.1 _ rows m.nd (List.mem_map_of_mem (f := fun r : Str × Str => r.1) hr) (fun q hq ne => ?_) (fun q hq eq => ?_)
  · unfold rowW
    by_cases c1 : q.1 = q.2
    · obtain ⟨n1, n2, _, _⟩ := m.other h hr er lr hq ne (.inl c1)
      rw [if_pos c1, if_pos c1, cnt_ne n1, cnt_ne n2]
    · rw [if_neg c1, if_neg c1]
      by_cases c2 : ltS q.1 q.2 = true
      · obtain ⟨n1, n2, n3, n4⟩ := m.other h hr er lr hq ne (.inr c2)
        rw [if_pos c2, if_pos c2, cnt_ne n1, cnt_ne n2, cnt_ne n3, cnt_ne n4]
      · rw [if_neg c2, if_neg c2]
  · have e1 := m.one hq hr eq
    subst e1
    unfold rowW
    by_cases c1 : q.1 = q.2
    · rw [if_pos c1, if_pos c1]
      have xp : x = q.1 ∧ p = q.1 := by
        rcases er with z | z
        · have z1 := congrArg Prod.fst z
          have z2 := congrArg Prod.snd z
          exact ⟨z1.symm, by rw [c1]; exact z2.symm⟩
        · have z1 := congrArg Prod.fst z
          have z2 := congrArg Prod.snd z
          exact ⟨by rw [c1]; exact z2.symm, z1.symm⟩
      rw [xp.1, xp.2, cnt_eq, cnt_eq]
      show (e.count q.1 + 1) * waysA (e.count q.1) = _
      rw [Nat.mul_comm]
    · have c2 : ltS q.1 q.2 = true := lr.resolve_left c1
      rw [if_neg c1, if_neg c1, if_pos c2, if_pos c2]
      have two : (x :: p :: e).count q.1 = e.count q.1 + 1 ∧ (x :: p :: e).count q.2 = e.count q.2 + 1 := by
        rcases er with z | z
        · have z1 : q.1 = x := congrArg Prod.fst z
          have z2 : q.2 = p := congrArg Prod.snd z
          have np : p ≠ x := fun y => c1 (by rw [z1, z2, y])
          rw [z1, z2, cnt_eq, cnt_ne np.symm, cnt_ne np, cnt_eq]
          exact ⟨rfl, rfl⟩
        · have z1 : q.1 = p := congrArg Prod.fst z
          have z2 : q.2 = x := congrArg Prod.snd z
          have np : p ≠ x := fun y => c1 (by rw [z1, z2, y])
          rw [z1, z2, cnt_ne np, cnt_eq, cnt_eq, cnt_ne np.symm]
          exact ⟨rfl, rfl⟩
      rw [two.1, two.2]
      unfold waysX
      by_cases c3 : e.count q.1 = e.count q.2
      · rw [if_pos (by omega), if_pos c3, fac_succ]
        rcases er with z | z
        · have z2 : q.2 = p := congrArg Prod.snd z
          rw [c3, z2]
        · have z1 : q.1 = p := congrArg Prod.fst z
          rw [z1]
      · rw [if_neg (by omega), if_neg c3, Nat.zero_mul]
theorem ways_none {rows : Rows2} (m : Mut rows) {x p : Str} (h : (x, p) ∈ rows) {e : List Str} (c0 : e.count p = 0) : countW rows (x :: e) = 0 := by
  obtain ⟨r, hr, er, lr⟩ := m.row h
  refine prod_zero _ rows ⟨r, hr, ?_⟩
  unfold rowW
  by_cases c1 : r.1 = r.2
  · have xp : x = r.1 ∧ p = r.1 := by
      rcases er with z | z
      · have z1 := congrArg Prod.fst z
        have z2 := congrArg Prod.snd z
        exact ⟨z1.symm, by rw [c1]; exact z2.symm⟩
      · have z1 := congrArg Prod.fst z
        have z2 := congrArg Prod.snd z
        exact ⟨by rw [c1]; exact z2.symm, z1.symm⟩
    rw [if_pos c1, xp.1, cnt_eq, ← xp.2, c0]
    rfl
  · have c2 : ltS r.1 r.2 = true := lr.resolve_left c1
    rw [if_neg c1, if_pos c2]
    unfold waysX
    rcases er with z | z
    · have z1 : r.1 = x := congrArg Prod.fst z
      have z2 : r.2 = p := congrArg Prod.snd z
      have np : p ≠ x := fun y => c1 (by rw [z1, z2, y])
      rw [z1, z2, cnt_eq, cnt_ne np, c0, if_neg (by omega)]
    · have z1 : r.1 = p := congrArg Prod.fst z
      have z2 : r.2 = x := congrArg Prod.snd z
      have np : p ≠ x := fun y => c1 (by rw [z1, z2, y])
      rw [z1, z2, cnt_eq, cnt_ne np, c0, if_neg (by omega)]
theorem ways_nil (rows : Rows2) : countW rows [] = 1 := by
  unfold countW
  induction rows with
  | nil => rfl
  | cons r rows ih =>
    show rowW [] r * prodN (rows.map (rowW [])) = 1
    rw [ih, Nat.mul_one]
    unfold rowW
    by_cases c1 : r.1 = r.2
    · rw [if_pos c1]
      rfl
    · rw [if_neg c1]
      by_cases c2 : ltS r.1 r.2 = true
      · rw [if_pos c2]
        rfl
      · rw [if_neg c2]
theorem ways_perm {rows : Rows2} {xs ys : List Str} (p : xs.Perm ys) : countW rows xs = countW rows ys := by
  unfold countW
  refine prod_same _ _ rows fun r _ => ?_
  unfold rowW
  rw [p.count_eq, p.count_eq]
end Toy
set_option Elab.async false
set_option linter.all false
set_option maxRecDepth 100000
set_option maxHeartbeats 4000000
namespace Toy
open PySem PySem.Spec PyProof.Rows L2
def sortsE (ks : List KRow) (cs : List Str) (lg : Rows2) : List Str := cs.flatMap (kEnds ks) ++ lg.map (·.2)
theorem allE_sorts (ks : List KRow) (cs : List Str) (lg : Rows2) : (allE ks cs lg).map (·.2) = sortsE ks cs lg := by
  unfold allE sortsE
  rw [List.map_append, cornE_sorts, legE_sorts]
theorem sortsE_len {ks : List KRow} {cs : List Str} {lg : Rows2} (k5 : ∀ k ∈ ks, k.2.length ≤ 5) (l6 : cs.length ≤ 6) (g6 : lg.length ≤ 6) : (sortsE ks cs lg).length ≤ 36 := by
  have e := congrArg List.length (allE_sorts ks cs lg)
  rw [List.length_map] at e
  rw [← e]
  unfold allE
  have h1 := cornE_len k5 cs 0
  have h2 := congrArg List.length (legE_sorts lg cs.length)
  rw [List.length_map, List.length_map] at h2
  rw [List.length_append]
  omega
theorem legs_data {keys : List Str} {ld : PyData} (h : legsD keys ld = true) : ∃ lg : Rows2, ld = .list (lg.map rowT) ∧ lg.length ≤ 6 := by
  cases ld with
  | list ds =>
    have h2 : (decide (ds.length ≤ 6) && (ds.all (legD keys) && (PyData.eqv (.list ds) (.list (sortD ds)) && decide (ds.map name0).Nodup))) = true := h
    rw [Bool.and_eq_true, Bool.and_eq_true, decide_eq_true_eq, List.all_eq_true] at h2
    obtain ⟨lg, e⟩ := legs_rows h2.2.1
    subst e
    have q := h2.1
    rw [List.length_map] at q
    exact ⟨lg, rfl, q⟩
  | _ => cases h
theorem corners_data {keys : List Str} {H : Hp} {cv : V} {cd : PyData} (hc : Dt H cv cd) (h : cornersD keys cd = true) : ∃ (c : Addr) (cs : List Str), cv = .ref c ∧ cd = .list (cs.map .str) ∧ H c = some (.lst (cs.map V.str)) ∧ cs.length ≤ 6 ∧ ∀ x ∈ cs, x ∈ keys := by
  cases hc with
  | lst e l r =>
    rename_i c xs ds
    have h1' : (decide (ds.length ≤ 6) && ds.all fun d => nameD d && decide (strO d ∈ keys)) = true := h
    rw [Bool.and_eq_true, decide_eq_true_eq, List.all_eq_true] at h1'
    obtain ⟨exs, eds⟩ := strs_of r fun d hd => by
      have q := h1'.2 d hd
      rw [Bool.and_eq_true] at q
      exact q.1
    have hk : ∀ x ∈ ds.map strO, x ∈ keys := fun x hx => by
      obtain ⟨d, hd, rfl⟩ := List.mem_map.mp hx
      have q := h1'.2 d hd
      rw [Bool.and_eq_true, decide_eq_true_eq] at q
      exact q.2
    have hl := h1'.1
    generalize ds.map strO = cs at exs eds hk
    subst exs
    subst eds
    rw [List.length_map] at hl
    exact ⟨c, cs, rfl, rfl, e, hl, hk⟩
  | _ => cases h
end Toy
set_option Elab.async false
set_option linter.all false
set_option maxRecDepth 100000
set_option maxHeartbeats 4000000
namespace Toy
open PySem PySem.Spec PyProof.Rows L2
theorem rep_flat (x : Str) : ∀ n : Nat, (List.replicate n [V.str x]).flatten = (List.replicate n x).map V.str
  | 0 => rfl
  | n + 1 => by
    rw [List.replicate_succ, List.flatten_cons, rep_flat x n, List.replicate_succ, List.map_cons]
    rfl
def wantR (xs : List Str) (r : Str × Str) : List Str := if r.1 = r.2 then List.replicate (xs.count r.1 % 2) r.1 else List.replicate (xs.count r.1 - xs.count r.2) r.2
def wantL (rows : Rows2) (xs : List Str) : List Str := rows.flatMap (wantR xs)
end Toy
set_option Elab.async false
set_option linter.all false
set_option maxRecDepth 100000
set_option maxHeartbeats 2000000
namespace L2
open PySem PySem.Spec PyProof.Rows Toy
theorem strs_get : ∀ {vs : List Value} {ys : List Str} {j : Nat} {k : Str}, StrsAre vs ys → ys[j]? = some k → ∃ t, vs[j]? = some (.str k t)
  | _, _, j, _, .nil, e => by simp at e
  | _, _, 0, _, .cons n u h, e => by
    cases e
    exact ⟨u, rfl⟩
  | _, _, j + 1, _, .cons n u h, e => strs_get (j := j) h e
theorem erase_mapS : ∀ (ns : List Str) (j : Nat), (ns.map V.str).eraseIdx j = (ns.eraseIdx j).map V.str
  | [], j => by simp
  | a :: r, 0 => by simp
  | a :: r, j + 1 => by
    have ih := erase_mapS r j
    simp [ih]
section
variable {X : Cx}
def rRemS : V → List V → Hp → VK → Prop := fun x xs H Q => ∃ (l : Addr) (ns : List Str) (k : Str) (j : Nat), x = .ref l ∧ xs = [.str k] ∧ H l = some (.lst (ns.map V.str)) ∧ ns[j]? = some k ∧ (∀ m : Nat, m < j → ns[m]? ≠ some k) ∧ Q .non (upd H l (.lst ((ns.eraseIdx j).map V.str)))
theorem mt_removeS : MtM X "list.remove" rRemS := by
  intro pins s σ H x xs v us Q I rx rxs h
  obtain ⟨l, ns, k, j, rfl, rfl, hH, hj, hno, q⟩ := h
  cases rx
  obtain ⟨u, rfl, ru⟩ := rxs.one
  obtain ⟨t, rfl⟩ := ru
  obtain ⟨z, its, n, r, hl, e⟩ := I.lstM hH
  have hi := strs_are r
  rw [List.length_map] at hl z
  have hjn : j < ns.length := (List.getElem?_eq_some_iff.mp hj).1
  have hjl : j < its.toArray.size := by rw [List.size_toArray]; omega
  refine call_meets PySem.F.slot_list_remove ⟨_, e, rfl⟩ PySem.F.entry_list_remove (PySem.F.args_list_remove_2 _ _)
    (MeetsSeq.list_remove l its.toArray n (.str k t) (isStrOf k) (fun y hy => eq_isStrOf k t hi y (by simpa using hy)) j hjl ?_ ?_ (by rw [List.size_toArray]; omega)) ⟨e, ?_⟩
  · obtain ⟨tj, hjt⟩ := strs_get hi hj
    obtain ⟨h1, h2⟩ := List.getElem?_eq_some_iff.mp hjt
    have e1 : its.toArray[j] = .str k tj := by simpa using h2
    rw [e1]
    exact beq_self_eq_true k
  · intro m hm hmj
    have hmn : m < ns.length := by omega
    obtain ⟨tm, hmt⟩ := strs_get hi (List.getElem?_eq_getElem hmn)
    obtain ⟨h1, h2⟩ := List.getElem?_eq_some_iff.mp hmt
    have e1 : its.toArray[m] = .str ns[m] tm := by simpa using h2
    rw [e1]
    refine beq_eq_false_iff_ne.mpr fun e2 => hno m hmj ?_
    rw [List.getElem?_eq_getElem hmn, e2]
  · have rr := r.eraseIdx j
    rw [erase_mapS] at rr
    refine ⟨.non, _, I.lset (its' := its.eraseIdx j) (t' := s.toks) hH e ?_ rr ?_, rfl, q⟩
    · show its.toArray.eraseIdxIfInBounds j = (its.eraseIdx j).toArray
      rw [List.eraseIdxIfInBounds_toArray]
    · have z2 := len_erase ns j
      rw [List.length_map]
      omega
end
end L2
set_option Elab.async false
set_option linter.all false
set_option maxRecDepth 100000
set_option maxHeartbeats 4000000
namespace Toy
open PySem PySem.Spec PyProof.Rows L2
theorem neD_gen {K : PySem.W.Frag} {H : Hp} {Q : VK} {x y : V} {d1 d2 : PyData} (h1 : Dt H x d1) (h2 : Dt H y d2) (l1 : Low 20 d1) (l2 : Low 20 d2) (q : Q (.bl (!PyData.eqv d1 d2)) H) : rNeD K x y H Q := by
  have c1 := h1.can l1.nd
  have c2 := h2.can l2.nd
  have sh1 : SeqAt.shaped d1 = true := by
    unfold SeqAt.shaped
    rw [c1, decide_eq_true (by have := l1.dep; omega)]
    rfl
  have sh2 : SeqAt.shaped d2 = true := by
    unfold SeqAt.shaped
    rw [c2, decide_eq_true (by have := l2.dep; omega)]
    rfl
  exact ⟨d1, d2, h1.dp l1.nd, h2.dp l2.nd, sh1, sh2, q⟩
def kvR (r : Str × Str) : Key × V := (Sum.inr r.1, .str r.2)
theorem val_mut : ∀ {rows : Rows2} {r : Str × Str}, (rows.map (·.1)).Nodup → r ∈ rows → valV (rows.map kvOf) (Sum.inr r.1) = some (.str r.2)
  | [], _, _, h => nomatch h
  | a :: rows, r, nd, h => by
    rw [List.map_cons, List.nodup_cons] at nd
    by_cases e : a.1 = r.1
    · rcases List.mem_cons.mp h with z | z
      · rw [List.map_cons, valV_pos (p := kvOf a) (congrArg Sum.inr e), z]
        rfl
      · exact absurd (by rw [e]; exact List.mem_map_of_mem (f := fun k : Str × Str => k.1) z) nd.1
    · rcases List.mem_cons.mp h with z | z
      · exact absurd (by rw [z]) e
      · rw [List.map_cons, valV_neg (p := kvOf a) (fun q => e (Sum.inr.inj q))]
        exact val_mut nd.2 z
/-- where a thing stands first -/
theorem first_at {p : Str} : ∀ {xs : List Str}, 1 ≤ xs.count p → ∃ j, xs[j]? = some p ∧ (∀ m, m < j → xs[m]? ≠ some p) ∧ xs.Perm (p :: xs.eraseIdx j)
  | [], h => by simp at h
  | x :: xs, h => by
    by_cases e : x = p
    · subst e
      exact ⟨0, rfl, fun m hm => absurd hm (Nat.not_lt_zero _), List.Perm.refl _⟩
    · have h2 : 1 ≤ xs.count p := by
        rw [List.count_cons_of_ne e] at h
        exact h
      obtain ⟨j, h1, h3, pm⟩ := first_at h2
      refine ⟨j + 1, h1, fun m hm => ?_, ?_⟩
      · cases m with
        | zero =>
          intro z
          exact e (Option.some.inj z)
        | succ m => exact h3 m (by omega)
      · show (x :: xs).Perm (p :: x :: xs.eraseIdx j)
        exact (List.Perm.cons x pm).trans (List.Perm.swap p x _)
end Toy
set_option Elab.async false
set_option linter.all false
set_option maxRecDepth 100000
set_option maxHeartbeats 2000000
namespace PySem.F
theorem toy_zip_no_len : typeLookup (.type "zip") "__len__" = pure none := by rw [typeLookup_type, builtinLookup_eq_fast]; kernel_rfl
theorem toy_zip_no_hint : typeLookup (.type "zip") "__length_hint__" = pure none := by rw [typeLookup_type, builtinLookup_eq_fast]; kernel_rfl
end PySem.F
namespace L2
open PySem PySem.Spec PyProof.Rows Toy
/-- pairs of these, in new tuples -/
def ZipAt (H : Hp) (acc xs ys : List V) : Prop := ∀ (j : Nat) (v : V), acc[j]? = some v → ∃ (T : Addr) (x y : V), v = .ref T ∧ xs[j]? = some x ∧ ys[j]? = some y ∧ H T = some (.tup [x, y])
def ZipSt (z TI TO i1 i2 l1 l2 : Addr) (h : Heap) (i : Nat) : Prop := IsPair h TI (.ref i1) (.ref i2) ∧ h.IsListIter i1 l1 i ∧ h.IsListIter i2 l2 i ∧
  ((IsZip h z TI TO .none ∧ ∃ a b, IsPair h TO a b) ∨ ∃ T f oT, IsZipHeld h z TI TO T f ∧ h.get? T = some oT ∧ (∃ oO, h.get? TO = some oO) ∧ T ≠ z ∧ T ≠ i1 ∧ T ≠ i2)
theorem ZipSt.at_ {z TI TO i1 i2 l1 l2 S : Addr} {h h' : Heap} {i : Nat} (st : ZipSt z TI TO i1 i2 l1 l2 h i) (k : ∀ b o, b ≠ S → h.get? b = some o → h'.get? b = some o) (nS : ∀ b ∈ [z, TI, TO, i1, i2], b ≠ S) (hT : ∀ T f, IsZipHeld h z TI TO T f → ∀ o, h.get? T = some o → ∃ o', h'.get? T = some o') :
    ZipSt z TI TO i1 i2 l1 l2 h' i := by
  obtain ⟨hTI, h1, h2, hz⟩ := st
  refine ⟨k _ _ (nS _ (by simp)) hTI, h1.at fun o e => k _ o (nS _ (by simp)) e, h2.at fun o e => k _ o (nS _ (by simp)) e, ?_⟩
  rcases hz with ⟨hz, a, b, hTO⟩ | ⟨T, f, oT, hz, hT0, ⟨oO, hO⟩, r⟩
  · exact .inl ⟨k _ _ (nS _ (by simp)) hz, a, b, k _ _ (nS _ (by simp)) hTO⟩
  · obtain ⟨o', e'⟩ := hT T f hz oT hT0
    exact .inr ⟨T, f, o', k _ _ (nS _ (by simp)) hz, e', ⟨oO, k _ _ (nS _ (by simp)) hO⟩, r⟩
section
variable {X : Cx} {pins : List (Addr × Obj)} {σ : St}
theorem zip_loop {z TI TO i1 i2 l1 l2 S : Addr} (D : ZipApart z TI TO i1 i2 l1 l2) {xs ys : List V} (A : Around) (hA : A.in1.handled = none) (res : Value) {R : Result → Shared → Prop} (hsz : xs.length ≤ 1000) :
    ∀ (k i : Nat) (s : Shared) (H : Hp) (acc : List V), min xs.length ys.length - i = k → i ≤ min xs.length ys.length → Inv X pins σ H s → (∀ b ∈ [z, TI, TO, i1, i2], FpOk X pins H b) → SqL X.K H l1 xs → SqL X.K H l2 ys → ZipSt z TI TO i1 i2 l1 l2 s.heap i →
      H S = some (.lst acc) → l1 ≠ S → l2 ≠ S → acc.length = i → ZipAt H acc xs ys →
      (∀ s' H' acc', Inv X pins σ H' s' → (∀ b o, b ≠ S → H b = some o → H' b = some o) → H' S = some (.lst acc') → acc'.length = min xs.length ys.length → ZipAt H' acc' xs ys → R (.ok (.ret res)) s') →
      codeAny (model X.prog X.w) A (.builtin "list.extend.loop" ⟨[.ref S, .ref z, res], []⟩) R s := by
  intro k
  induction k with
  | zero =>
    intro i s H acc hk hi I hf hx hy st hS n1 n2 ha hz hR
    have hin : i = min xs.length ys.length := by omega
    obtain ⟨its, rv, p, _⟩ := I.list hx
    obtain ⟨its2, rv2, p2, _⟩ := I.list hy
    have e1 := rv.length
    have e2 := rv2.length
    refine codeAny_builtin F.entry_extend_loop ?_
    rw [Around.under_plainId F.plain_extend_loop _]
    show wpAny _ A.in1 (pyNext (.ref z) >>= _) _ _ s
    obtain ⟨hTI, h1, h2, hzs⟩ := st
    have hend : its.toArray[i]? = none ∨ its2.toArray[i]? = none := by
      rcases Nat.le_total xs.length ys.length with h | h
      · exact .inl (by simp; omega)
      · exact .inr (by simp; omega)
    rcases hzs with ⟨hz0, a, b, hTO⟩ | ⟨T, f, oT, hz0, hT, ⟨oO, hO⟩, r1, r3, r4⟩
    · refine wpAny_bind (wpAny_pyNext_zip_end hA D hz0 hTI hTO h1 h2 p.isList p2.isList hend fun h' hk' => ?_)
      have I1 : Inv X pins σ H { s with heap := h' } := I.turnedL (t' := s.toks) (ch := [z, TI, TO, i1, i2]) (fun c o hb q => hk' c o (fun q' => hb (by simp [q'])) (fun q' => hb (by simp [q'])) (fun q' => hb (by simp [q'])) (fun q' => hb (by simp [q'])) q) hf
      exact wpAny_pure (hR _ H acc I1 (fun _ _ _ e => e) hS (by omega) hz)
    · refine wpAny_bind (wpAny_pyNext_zip_end_held hA D hz0 hT hTI h1 h2 p.isList p2.isList hend fun h' hk' => ?_)
      have I1 : Inv X pins σ H { s with heap := h' } := I.turnedL (t' := s.toks) (ch := [z, TI, TO, i1, i2]) (fun c o hb q => hk' c o (fun q' => hb (by simp [q'])) (fun q' => hb (by simp [q'])) (fun q' => hb (by simp [q'])) q) hf
      exact wpAny_pure (hR _ H acc I1 (fun _ _ _ e => e) hS (by omega) hz)
  | succ k ih =>
    intro i s H acc hk hi I hf hx hy st hS n1 n2 ha hz hR
    have hlt : i < min xs.length ys.length := by omega
    obtain ⟨its, rv, p, _⟩ := I.list hx
    obtain ⟨its2, rv2, p2, _⟩ := I.list hy
    have l1' : i < xs.length := by omega
    have l2' : i < ys.length := by omega
    obtain ⟨u, hu, ru⟩ := rv.get (List.getElem?_eq_getElem l1')
    obtain ⟨u2, hu2, ru2⟩ := rv2.get (List.getElem?_eq_getElem l2')
    have hu' : its.toArray[i]? = some u := by simpa using hu
    have hu2' : its2.toArray[i]? = some u2 := by simpa using hu2
    have nS : ∀ b ∈ [z, TI, TO, i1, i2], b ≠ S := fun b hb e => by
      have q := (hf b hb).1
      rw [e, hS] at q
      cases q
    obtain ⟨hTI, h1, h2, hzs⟩ := st
    have hzl : ∀ b ∈ [z, TI, TO, i1, i2], True := fun _ _ => trivial
    -- behind the next pair
    have go : ∀ (h' : Heap), (∀ b o, b ∉ [z, TI, TO, i1, i2] → s.heap.get? b = some o → h'.get? b = some o) → h'.get? s.heap.objs.size = some { cls := .type "tuple", data := .seq #[u, u2] } → h'.objs.size = s.heap.objs.size + 1 →
        ZipSt z TI TO i1 i2 l1 l2 h' (i + 1) → (∀ b ∈ [z, TI, TO, i1, i2], b < s.heap.objs.size) →
        wpAny (model X.prog X.w) A.in1 (updateSeq S (·.push (.ref s.heap.objs.size)) >>= fun _ => again (.builtin "list.extend.loop" ⟨[.ref S, .ref z, res], []⟩)) (fun fin s' => match fin with | .done f => R (.ok f) s' | .again c' => c'.quiet = true ∧ codeAny (model X.prog X.w) A c' R s') (fun e s' => R (.error e) s') { s with heap := h' } := by
      intro h' hk' hT hsz' st' hlt'
      have new : ObjOk X.prog X.w (upd H s.heap.objs.size (.tup [xs[i], ys[i]])) h' s.heap.objs.size (.tup [xs[i], ys[i]]) :=
        ⟨by show 2 ≤ sizeLine; decide, [u, u2], .cons ru (.cons ru2 .nil), ⟨_, hT, rfl, _, rfl⟩⟩
      have I1 : Inv X pins σ (upd H s.heap.objs.size (.tup [xs[i], ys[i]])) { s with heap := h' } := I.turnedNew (t' := s.toks) (ch := [z, TI, TO, i1, i2]) hk' hf (Nat.le_refl _) new
      have hn : H s.heap.objs.size = none := I.hok.fresh (Nat.le_refl _)
      have sT : ∀ b o, H b = some o → upd H s.heap.objs.size (.tup [xs[i], ys[i]]) b = some o := fun b o e => by
        rw [upd_ne (ne_of_none e hn)]
        exact e
      have nT : s.heap.objs.size ≠ S := fun e => by
        rw [e, hS] at hn
        cases hn
      have hS1 := sT _ _ hS
      have hT1 : upd H s.heap.objs.size (.tup [xs[i], ys[i]]) s.heap.objs.size = some (.tup [xs[i], ys[i]]) := upd_same
      have hf1 : ∀ b ∈ [z, TI, TO, i1, i2], FpOk X pins (upd H s.heap.objs.size (.tup [xs[i], ys[i]])) b := fun b hb => by
        obtain ⟨f0, fr⟩ := hf b hb
        exact ⟨by rw [upd_ne (Nat.ne_of_lt (hlt' b hb))]; exact f0, fr⟩
      generalize hH1 : upd H s.heap.objs.size (.tup [xs[i], ys[i]]) = H1 at I1 sT hS1 hT1 hf1
      obtain ⟨zz, accI, nn, rr, hl, e⟩ := I1.lstM hS1
      have la := rr.length
      refine wpAny_bind ?_
      refine wpAny_updateSeq e rfl (wpAny_pure ⟨plainId_quiet F.plain_extend_loop _, ?_⟩) (by simp; omega) (by simp; omega)
      have I2 : Inv X pins σ (upd H1 S (.lst (acc ++ [.ref s.heap.objs.size]))) { s with heap := h'.update S (Obj.mapSeq (·.push (.ref s.heap.objs.size))), toks := s.toks } :=
        I1.lset (s := { s with heap := h' }) (its' := accI ++ [.ref s.heap.objs.size]) (f := (·.push (.ref s.heap.objs.size))) (t' := s.toks) hS1 e (by simp) (rr.append (.cons (show RelV (V.ref s.heap.objs.size) (Value.ref s.heap.objs.size) from rfl) .nil)) (by rw [List.length_append, List.length_singleton]; omega)
      have sU : ∀ b o, b ≠ S → H1 b = some o → upd H1 S (.lst (acc ++ [.ref s.heap.objs.size])) b = some o := fun b o nb e => by
        rw [upd_ne nb]
        exact e
      have sAll : ∀ b o, b ≠ S → H b = some o → upd H1 S (.lst (acc ++ [.ref s.heap.objs.size])) b = some o := fun b o nb e => sU b o nb (sT b o e)
      have sql : ∀ {l : Addr} {zs : List V}, l ≠ S → SqL X.K H l zs → SqL X.K (upd H1 S (.lst (acc ++ [.ref s.heap.objs.size]))) l zs := fun nl q => q.elim (fun r => .inl (r.elim (fun e => .inl (sAll _ _ nl e)) fun ⟨o, e⟩ => .inr ⟨o, sAll _ _ nl e⟩)) .inr
      refine ih (i + 1) _ _ (acc ++ [.ref s.heap.objs.size]) (by omega) (by omega) I2 (fun b hb => ?_) (sql n1 hx) (sql n2 hy) (st'.at_ (S := S) (fun b o nb q => (Heap.get?_update_other _ _ (Ne.symm nb)).trans q) nS fun T f hz' o hT' => ?_) upd_same n1 n2 (by rw [List.length_append, ha]; rfl) (fun j v hj => ?_) fun s' H' acc' I' so hS' hl' hz' => hR s' H' acc' I' (fun b o nb e => so b o nb (sAll b o nb e)) hS' hl' hz'
      · obtain ⟨f0, fr⟩ := hf1 b hb
        exact ⟨by rw [upd_ne (nS b hb)]; exact f0, fr⟩
      · by_cases q : T = S
        · rw [q]
          exact ⟨_, PySem.IsL.update e _⟩
        · exact ⟨o, (Heap.get?_update_other _ _ (Ne.symm q)).trans hT'⟩
      · by_cases q : j < acc.length
        · rw [List.getElem?_append_left q] at hj
          obtain ⟨T, x, y, e1, e2, e3, e4⟩ := hz j v hj
          have nTS : T ≠ S := fun z => by
            rw [z, hS] at e4
            cases e4
          exact ⟨T, x, y, e1, e2, e3, sAll _ _ nTS e4⟩
        · have ej : j = acc.length := by
            have q2 := (List.getElem?_eq_some_iff.mp hj).1
            rw [List.length_append, List.length_singleton] at q2
            omega
          rw [ej, List.getElem?_append_right (Nat.le_refl _), Nat.sub_self] at hj
          cases hj
          rw [ej, ha]
          exact ⟨_, xs[i], ys[i], rfl, List.getElem?_eq_getElem l1', List.getElem?_eq_getElem l2', sU _ _ nT hT1⟩
    refine codeAny_builtin F.entry_extend_loop ?_
    rw [Around.under_plainId F.plain_extend_loop _]
    show wpAny _ A.in1 (pyNext (.ref z) >>= _) _ _ s
    have lti1 : i1 < s.heap.objs.size := by obtain ⟨_, e, _⟩ := h1; exact Heap.lt_size e
    have lti2 : i2 < s.heap.objs.size := by obtain ⟨_, e, _⟩ := h2; exact Heap.lt_size e
    rcases hzs with ⟨hz0, a, b, hTO⟩ | ⟨T, f, oT, hz0, hT, ⟨oO, hO⟩, r1, r3, r4⟩
    · have hlt' : ∀ b ∈ [z, TI, TO, i1, i2], b < s.heap.objs.size := fun b hb => by
        have e' : b = z ∨ b = TI ∨ b = TO ∨ b = i1 ∨ b = i2 := by simpa using hb
        rcases e' with q | q | q | q | q
        · rw [q]; exact Heap.lt_size hz0
        · rw [q]; exact Heap.lt_size hTI
        · rw [q]; exact Heap.lt_size hTO
        · rw [q]; exact lti1
        · rw [q]; exact lti2
      have nw : ∀ b ∈ [z, TI, TO, i1, i2], s.heap.objs.size ≠ b := fun b hb => Nat.ne_of_gt (hlt' b hb)
      refine wpAny_bind (wpAny_pyNext_zip_item D hz0 hTI hTO h1 h2 p.isList p2.isList hu' hu2' fun h' a1 a2 a3 a4 a5 a6 hk' => ?_)
      exact go h' (fun c o hb q => hk' c o (fun q' => hb (by simp [q'])) (fun q' => hb (by simp [q'])) (fun q' => hb (by simp [q'])) (fun q' => hb (by simp [q'])) q) a5 a6
        ⟨hk' _ _ D.TIz D.TITO D.TIi1 D.TIi2 hTI, a3, a4, .inr ⟨s.heap.objs.size, false, _, a1, a5, ⟨_, a2⟩, nw _ (by simp), nw _ (by simp), nw _ (by simp)⟩⟩ hlt'
    · have hTO : TO < s.heap.objs.size := Heap.lt_size hO
      have hlt' : ∀ b ∈ [z, TI, TO, i1, i2], b < s.heap.objs.size := fun b hb => by
        have e' : b = z ∨ b = TI ∨ b = TO ∨ b = i1 ∨ b = i2 := by simpa using hb
        rcases e' with q | q | q | q | q
        · rw [q]; exact Heap.lt_size hz0
        · rw [q]; exact Heap.lt_size hTI
        · rw [q]; exact hTO
        · rw [q]; exact lti1
        · rw [q]; exact lti2
      refine wpAny_bind (wpAny_pyNext_zip_item_held D hz0 hT hTI h1 h2 p.isList p2.isList hu' hu2' fun h' a1 a3 a4 a5 a6 hk' => ?_)
      exact go h' (fun c o hb q => hk' c o (fun q' => hb (by simp [q'])) (fun q' => hb (by simp [q'])) (fun q' => hb (by simp [q'])) q) a5 a6
        ⟨hk' _ _ D.TIz D.TIi1 D.TIi2 hTI, a3, a4, .inr ⟨T, true, oT, a1, hk' _ _ r1 r3 r4 hT, ⟨oO, hk' _ _ D.TOz D.TOi1 D.TOi2 hO⟩, r1, r3, r4⟩⟩ hlt'
theorem zip_init {z TI TO i1 i2 l1 l2 S : Addr} (D : ZipApart z TI TO i1 i2 l1 l2) {xs ys : List V} (A : Around) (hA : A.in1.handled = none) {R : Result → Shared → Prop} (hsz : xs.length ≤ 1000) {s : Shared} {H : Hp} (I : Inv X pins σ H s) (eS : S = s.heap.objs.size) (hf : ∀ b ∈ [z, TI, TO, i1, i2], FpOk X pins H b)
    (hx : SqL X.K H l1 xs) (hy : SqL X.K H l2 ys) (hz : IsZip s.heap z TI TO .none) (st : ZipSt z TI TO i1 i2 l1 l2 s.heap 0) (hlt : ∀ b ∈ [z, TI, TO, i1, i2], b < s.heap.objs.size) (hl1 : l1 < s.heap.objs.size) (hl2 : l2 < s.heap.objs.size)
    (hR : ∀ s' H' acc', Inv X pins σ H' s' → (∀ b o, b ≠ S → H b = some o → H' b = some o) → H' S = some (.lst acc') → acc'.length = min xs.length ys.length → ZipAt H' acc' xs ys → R (.ok (.ret .none)) s') :
    wpAny (model X.prog X.w) A.in1 (Builtin.«list.__init__» ⟨[.ref S, .ref z], []⟩)
      (fun fin s' => match fin with | .done f => R (.ok f) s' | .again c' => c'.quiet = true ∧ codeAny (model X.prog X.w) A c' R s') (fun e s' => R (.error e) s') { s with heap := s.heap.push { cls := .type "list", data := .seq #[] } } := by
  have hS : (s.heap.push { cls := .type "list", data := .seq #[] }).get? S = some { cls := .type "list", data := .seq #[] } := by rw [eS]; exact Heap.get?_push_size _ rfl
  have nSz : ∀ b ∈ [z, TI, TO, i1, i2], b ≠ S := fun b hb => by rw [eS]; exact Nat.ne_of_lt (hlt b hb)
  show wpAny _ A.in1 (do let old ← Builtin.List.listItems (.ref S); Builtin.List.listUpdate (.ref S) (fun _ => #[]); letGo old.toList.reverse; Builtin.List.listExtendWith (.ref S) (.ref z) .none) _ _ _
  refine wpAny_bind ?_
  unfold Builtin.List.listItems
  refine wpAny_bind (wpAny_seqItems hS rfl (wpAny_pure ?_))
  show wpAny _ A.in1 (updateSeq S (fun _ => #[]) >>= fun _ => letGo (#[] : Array Value).toList.reverse >>= fun _ => Builtin.List.listExtendWith (.ref S) (.ref z) .none) _ _ _
  refine wpAny_bind (wpAny_updateSeq hS rfl ?_)
  have hS₂ := Heap.get?_update_self (Obj.mapSeq (fun _ => (#[] : Array Value))) hS rfl
  refine wpAny_bind (wpAny_letGo ?_)
  generalize hh2 : (s.heap.push { cls := .type "list", data := .seq #[] }).update S (Obj.mapSeq (fun _ => (#[] : Array Value))) = h2 at hS₂
  have k2 : ∀ b o, s.heap.get? b = some o → h2.get? b = some o := fun b o e => by
    rw [← hh2]
    exact (Heap.get?_update_other _ _ (by rw [eS]; exact Nat.ne_of_gt (Heap.lt_size e))).trans (Heap.get?_push_of_some _ e)
  have hT : Shared.TypeIs { s with heap := h2 } (.ref z) "zip" := ⟨_, k2 _ _ hz, rfl⟩
  have hSI : S ≠ z := (nSz z (by simp)).symm
  unfold Builtin.List.listExtendWith
  refine wpAny_bind (wpAny_typeOf hT ?_)
  have g1 : Builtin.List.listSameRef (.ref S) (.ref z) = false := by simp [Builtin.List.listSameRef, hSI]
  have g2 : (Value.type "zip" == Value.type "list") = false := by decide
  have g3 : (Value.type "zip" == Value.type "tuple") = false := by decide
  simp only [g1, g2, g3, Bool.or_false, Bool.false_eq_true, if_false]
  refine wpAny_bind (wpAny_pyIter_zip (k2 _ _ hz) ?_)
  refine wpAny_bind (wpAny_holding ?_)
  unfold Builtin.List.listLengthHint
  refine wpAny_bind (wpAny_specialOf hT PySem.F.toy_zip_no_len ?_)
  show wpAny _ A.in1 (specialOf (Value.ref z) (Str.ofString "__length_hint__") >>= _) _ _ _
  refine wpAny_bind (wpAny_specialOf hT PySem.F.toy_zip_no_hint ?_)
  refine wpAny_pure ?_
  show wpAny _ A.in1 (rule "list.extend.makes-room" >>= fun _ => Builtin.List.listTouch (.ref S) >>= fun _ =>
    again (.builtin "list.extend.loop" ⟨[.ref S, .ref z, .none], []⟩)) _ _ _
  refine wpAny_bind (wpAny_rule ?_)
  refine wpAny_bind ?_
  show wpAny _ A.in1 (updateSeq S (·.push .none) >>= fun _ => updateSeq S (·.pop)) _ _ _
  refine wpAny_bind (wpAny_updateSeq hS₂ rfl ?_)
  have hS₃ := Heap.get?_update_self (Obj.mapSeq (·.push Value.none)) hS₂ rfl
  refine wpAny_updateSeq (hz := by seq_fits) hS₃ rfl ?_
  have hS₄ := Heap.get?_update_self (Obj.mapSeq (·.pop)) hS₃ rfl
  generalize hh4 : (h2.update S (Obj.mapSeq (·.push Value.none))).update S (Obj.mapSeq (·.pop)) = h4 at hS₄
  have k4 : ∀ b o, s.heap.get? b = some o → h4.get? b = some o := fun b o e => by
    have nb : S ≠ b := by rw [eS]; exact Nat.ne_of_gt (Heap.lt_size e)
    rw [← hh4]
    exact (Heap.get?_update_other _ _ nb).trans ((Heap.get?_update_other _ _ nb).trans (k2 b o e))
  have I4 : Inv X pins σ (upd H S (.lst [])) { s with heap := h4 } := by
    exact I.laid (t' := s.toks) k4 (by rw [eS]; exact Nat.le_refl _) ⟨Nat.zero_le _, [], _, .nil, hS₄⟩
  have hnS : H S = none := I.hok.fresh (by rw [eS]; exact Nat.le_refl _)
  have sS : ∀ b o, H b = some o → upd H S (.lst []) b = some o := fun b o e => by
    rw [upd_ne (ne_of_none e hnS)]
    exact e
  have sql : ∀ {l : Addr} {zs : List V}, SqL X.K H l zs → SqL X.K (upd H S (.lst [])) l zs := fun q => q.elim (fun r => .inl (r.elim (fun e => .inl (sS _ _ e)) fun ⟨o, e⟩ => .inr ⟨o, sS _ _ e⟩)) .inr
  refine wpAny_pure ⟨plainId_quiet F.plain_extend_loop _, zip_loop D A hA .none hsz _ 0 _ _ [] rfl (Nat.zero_le _) I4 (fun b hb => ?_) (sql hx) (sql hy) (st.at_ (S := S) (fun b o _ e => k4 b o e) nSz fun T f hz' o e => ⟨o, k4 _ _ e⟩) upd_same (by rw [eS]; exact Nat.ne_of_lt hl1) (by rw [eS]; exact Nat.ne_of_lt hl2) rfl (fun j v e => by simp at e) fun s' H' acc' I' so hS' hl' hz' => hR s' H' acc' I' (fun b o nb e => so b o nb (sS b o e)) hS' hl' hz'⟩
  obtain ⟨f0, fr⟩ := hf b hb
  exact ⟨by rw [upd_ne (nSz b hb)]; exact f0, fr⟩
end
def tLZip (K : PySem.W.Frag) (ta : TA) : TE := fun σ H Q => ta σ H fun vs H1 => ∃ (a b : Addr) (xs ys : List V), vs = [.ref a, .ref b] ∧ SqL K H1 a xs ∧ SqL K H1 b ys ∧ xs.length ≤ 1000 ∧
  ∀ (p : Addr) (H' : Hp) (acc : List V), H1 p = none → Same H1 H' → H' p = some (.lst acc) → acc.length = min xs.length ys.length → ZipAt H' acc xs ys → Q (.ref p) H'
section
variable {X : Cx}
/-- list(zip(e, e2)) -/
theorem pe_listzip {e e2 : Expr} {ta : TA} {p p2 q pos : Pos} (hc : X.calm = true) (hg : Gl X "list") (hm : X.mg "list" = none) (hg2 : Gl X "zip") (hm2 : X.mg "zip" = none) (ha : PA X [e, e2] ta)
    (na : starEach [Expr.Call (.Name "zip" p2) [e, e2] [] q] X.env = (false, eval (.Call (.Name "zip" p2) [e, e2] [] q) X.env) :: starEach [] X.env := by rfl)
    (hs : starEach [e, e2] X.env = (false, eval e X.env) :: starEach [e2] X.env := by rfl) (hpl : (backTo q (starEach [e2] X.env)).any (·.1) = false := by rfl) :
    PE X (.Call (.Name "list" p) [.Call (.Name "zip" p2) [e, e2] [] q] [] pos) (tLZip X.K ta) := by
  refine ⟨fun pins s σ H Q I h => ?_⟩
  refine Call_ (ld_blt I hg hm (show bootBuiltins "list" = some (.type "list") by decide +kernel) ?_)
  refine PyProof.Rows.callWith_type1 (PyProof.Rows.args_cons ?_ na) na rfl
  refine Call_ (ld_blt I hg2 hm2 PyProof.Rows.boot_zip (PyProof.Rows.callWith_type1 (thn (ha.run q pins s σ H _ I h) fun us s1 ⟨vs, H1, I1, r1, q1⟩ => ?_) hs hpl))
  obtain ⟨a, b, xs, ys, ex, hqx, hqy, hsz, qq⟩ := q1
  subst ex
  cases r1 with
  | cons r rr =>
    cases rr with
    | cons r' rr =>
      cases rr
      cases r
      cases r'
      obtain ⟨its, rv, p1, _⟩ := I1.list hqx
      obtain ⟨its2, rv2, p2', _⟩ := I1.list hqy
      have la : a < s1.heap.objs.size := p1.lt
      have lb : b < s1.heap.objs.size := p2'.lt
      refine call_zip_2 p1.isList p2'.isList fun h' hz hTI hTO h1 h2 hsz' hk => PyProof.Rows.args_nil ?_
      have I2 : Inv X pins σ H1 { s1 with heap := h' } := I1.kept (t' := s1.toks) hk
      have mem : ∀ c ∈ [s1.heap.objs.size + 4, s1.heap.objs.size + 2, s1.heap.objs.size + 3, s1.heap.objs.size, s1.heap.objs.size + 1], s1.heap.objs.size ≤ c ∧ c < h'.objs.size := fun c hcm => by
        have e' : c = s1.heap.objs.size + 4 ∨ c = s1.heap.objs.size + 2 ∨ c = s1.heap.objs.size + 3 ∨ c = s1.heap.objs.size ∨ c = s1.heap.objs.size + 1 := by simpa using hcm
        rw [hsz']
        rcases e' with z | z | z | z | z
        · rw [z]; exact ⟨Nat.le_add_right _ _, Nat.add_lt_add_left (by decide) _⟩
        · rw [z]; exact ⟨Nat.le_add_right _ _, Nat.add_lt_add_left (by decide) _⟩
        · rw [z]; exact ⟨Nat.le_add_right _ _, Nat.add_lt_add_left (by decide) _⟩
        · rw [z]; exact ⟨Nat.le_refl _, Nat.lt_add_of_pos_right (by decide)⟩
        · rw [z]; exact ⟨Nat.le_add_right _ _, Nat.add_lt_add_left (by decide) _⟩
      have hgr : s1.heap.objs.size ≤ h'.objs.size := by rw [hsz']; exact Nat.le_add_right _ _
      refine callType_codes (Q₁ := fun obj s₁ => obj = .ref h'.objs.size ∧ s₁ = { s1 with heap := h'.push { cls := .type "list", data := .seq #[] } }) PySem.F.called_list (PySem.F.typeCall_list_1 _) PySem.F.entry_list_init
        (code_list_new _ ⟨rfl, rfl⟩) fun obj s₁ h₁ => ?_
      obtain ⟨rfl, rfl⟩ := h₁
      have hS : (h'.push { cls := .type "list", data := .seq #[] }).get? h'.objs.size = some { cls := .type "list", data := .seq #[] } := Heap.get?_push_size _ rfl
      refine ⟨⟨_, hS, rfl⟩, PySem.F.args_list_init_2 _ _, ?_⟩
      have hn : H1 h'.objs.size = none := I2.hok.fresh (Nat.le_refl _)
      refine zip_init (s := { s1 with heap := h' }) (R := wants (fun r s₂ => r = Value.none ∧ EP X pins σ Q (Value.ref h'.objs.size) s₂) X.xe) (PySem.W.ktu_apart s1.heap.objs.size a b la lb) X.A.in1 (I2.ok.hd hc) hsz I2 rfl (fun c hcm => I1.fpOk (mem c hcm).1 (I1.hok.fresh (mem c hcm).1)) hqx hqy hz ⟨hTI, h1, h2, .inl ⟨hz, _, _, hTO⟩⟩ (fun c hcm => (mem c hcm).2) (Nat.lt_of_lt_of_le la hgr) (Nat.lt_of_lt_of_le lb hgr) fun s' H' acc' I' so hS' hl' hz' => ?_
      exact ⟨rfl, .ref h'.objs.size, H', I', rfl, qq _ _ _ hn (fun b o e => so b o (ne_of_none e hn) e) hS' hl' hz'⟩
end
end L2
set_option Elab.async false
set_option linter.all false
set_option maxRecDepth 100000
set_option maxHeartbeats 4000000
namespace Toy
open PySem PySem.Spec PyProof.Rows L2
/-! ### the order of legs -/
def leR (a b : Str × Str) : Prop := a.1.cps.toList < b.1.cps.toList ∨ (a.1.cps.toList = b.1.cps.toList ∧ a.2.cps.toList ≤ b.2.cps.toList)
def rowLe (a b : Str × Str) : Bool := PySem.W.dataLe false id (rowT a) (rowT b)
theorem strLt (x y : Str) : PySem.W.dataLt (.str x) (.str y) = decide (x.cps.toList < y.cps.toList) := by
  have q := congrFun (congrFun (PySem.W.dataLe_str (fun b : Str => b)) y) x
  have q2 : (!PySem.W.dataLt (.str x) (.str y)) = decide (y.cps.toList ≤ x.cps.toList) := q
  by_cases h : x.cps.toList < y.cps.toList
  · rw [decide_eq_true h]
    rw [decide_eq_false (fun z => (List.not_lt.mpr z) h)] at q2
    simpa using q2
  · rw [decide_eq_false h]
    rw [decide_eq_true (List.not_lt.mp h)] at q2
    simpa using q2
theorem eqvS (x y : Str) : PyData.eqv (.str x) (.str y) = decide (x = y) := by
  show (x == y) = decide (x = y)
  by_cases h : x = y
  · rw [h, decide_eq_true rfl]
    simp
  · rw [decide_eq_false h]
    simpa using h
theorem rowLe_iff (a b : Str × Str) : rowLe a b = true ↔ leR a b := by
  have e : PySem.W.dataLt (rowT b) (rowT a) = if PyData.eqv (.str b.1) (.str a.1) = true then (if PyData.eqv (.str b.2) (.str a.2) = true then false else PySem.W.dataLt (.str b.2) (.str a.2)) else PySem.W.dataLt (.str b.1) (.str a.1) :=
    PySem.W.dataLt_pair (by simp [PySem.W.alike]) (by simp [PySem.W.alike])
  have e0 : rowLe a b = !PySem.W.dataLt (rowT b) (rowT a) := rfl
  rw [e0, e, eqvS, eqvS, strLt, strLt]
  unfold leR
  by_cases h1 : b.1 = a.1
  · rw [if_pos (decide_eq_true h1)]
    by_cases h2 : b.2 = a.2
    · rw [if_pos (decide_eq_true h2), h1, h2]
      exact ⟨fun _ => .inr ⟨rfl, List.le_refl _⟩, fun _ => rfl⟩
    · rw [if_neg (by simpa using h2)]
      by_cases h3 : b.2.cps.toList < a.2.cps.toList
      · rw [decide_eq_true h3, h1]
        refine ⟨fun z => by simp at z, fun z => ?_⟩
        rcases z with z | ⟨_, z⟩
        · exact absurd z (List.lt_irrefl _)
        · exact absurd h3 (List.not_lt.mpr z)
      · rw [decide_eq_false h3, h1]
        exact ⟨fun _ => .inr ⟨rfl, List.not_lt.mp h3⟩, fun _ => rfl⟩
  · rw [if_neg (by simpa using h1)]
    by_cases h3 : b.1.cps.toList < a.1.cps.toList
    · rw [decide_eq_true h3]
      refine ⟨fun z => by simp at z, fun z => ?_⟩
      rcases z with z | ⟨z, _⟩
      · exact absurd z (List.lt_asymm h3)
      · rw [z] at h3
        exact absurd h3 (List.lt_irrefl _)
    · rw [decide_eq_false h3]
      refine ⟨fun _ => ?_, fun _ => rfl⟩
      by_cases h4 : a.1.cps.toList < b.1.cps.toList
      · exact .inl h4
      · exact absurd (str_ext (List.le_antisymm (List.not_lt.mp h4) (List.not_lt.mp h3))) h1
theorem leR_trans {a b c : Str × Str} (h1 : leR a b) (h2 : leR b c) : leR a c := by
  unfold leR at *
  rcases h1 with h1 | ⟨h1, g1⟩
  · rcases h2 with h2 | ⟨h2, g2⟩
    · exact .inl (List.lt_trans h1 h2)
    · rw [h2] at h1
      exact .inl h1
  · rcases h2 with h2 | ⟨h2, g2⟩
    · rw [← h1] at h2
      exact .inl h2
    · exact .inr ⟨h1.trans h2, List.le_trans g1 g2⟩
theorem leR_total (a b : Str × Str) : leR a b ∨ leR b a := by
  unfold leR
  by_cases h1 : a.1.cps.toList < b.1.cps.toList
  · exact .inl (.inl h1)
  · by_cases h2 : b.1.cps.toList < a.1.cps.toList
    · exact .inr (.inl h2)
    · have e := List.le_antisymm (List.not_lt.mp h2) (List.not_lt.mp h1)
      rcases List.le_total a.2.cps.toList b.2.cps.toList with h | h
      · exact .inl (.inr ⟨e, h⟩)
      · exact .inr (.inr ⟨e.symm, h⟩)
def sortR (rs : Rows2) : Rows2 := rs.mergeSort rowLe
theorem sortD_R (rs : Rows2) : sortD (rs.map rowT) = (sortR rs).map rowT := by
  unfold sortD sortR
  exact (List.map_mergeSort (f := rowT) fun a _ b _ => rfl).symm
theorem sortR_pw (rs : Rows2) : (sortR rs).Pairwise leR := by
  have q := List.pairwise_mergeSort (le := rowLe) (fun a b c h1 h2 => (rowLe_iff a c).mpr (leR_trans ((rowLe_iff a b).mp h1) ((rowLe_iff b c).mp h2))) (fun a b => by
    rcases leR_total a b with h | h
    · rw [(rowLe_iff a b).mpr h]
      rfl
    · rw [(rowLe_iff b a).mpr h]
      exact Bool.or_true _) rs
  exact q.imp fun h => (rowLe_iff _ _).mp h
theorem sortR_perm (rs : Rows2) : (sortR rs).Perm rs := List.mergeSort_perm _ _
theorem sortR_id {rs : Rows2} (h : rs.Pairwise leR) : sortR rs = rs := by
  unfold sortR
  exact List.mergeSort_of_pairwise (h.imp fun q => (rowLe_iff _ _).mpr q)
def zzS : Str := "zz"
/-- legs as the laws draw them -/
structure LegsG (rows lg : Rows2) : Prop where
  l6 : lg.length ≤ 6
  nd : (lg.map (·.1)).Nodup
  nm : ∀ g ∈ lg, nameS g.1 = true
  so : ∀ g ∈ lg, g.2 ∈ rows.map (·.1)
  pw : lg.Pairwise leR
theorem LegsG.nil (rows : Rows2) : LegsG rows [] := ⟨Nat.zero_le _, List.nodup_nil, fun _ h => (nomatch h), fun _ h => (nomatch h), List.Pairwise.nil⟩
theorem LegsG.tail {rows lg : Rows2} (h : LegsG rows lg) : LegsG rows lg.tail := by
  cases lg with
  | nil => exact h
  | cons g lg =>
    refine ⟨?_, ?_, fun x hx => h.nm x (List.mem_cons_of_mem _ hx), fun x hx => h.so x (List.mem_cons_of_mem _ hx), ?_⟩
    · have := h.l6
      rw [List.length_cons] at this
      show lg.length ≤ 6
      omega
    · have := h.nd
      rw [List.map_cons, List.nodup_cons] at this
      exact this.2
    · exact (List.pairwise_cons.mp h.pw).2
theorem LegsG.sorted {rows lg : Rows2} (l6 : lg.length ≤ 6) (nd : (lg.map (·.1)).Nodup) (nm : ∀ g ∈ lg, nameS g.1 = true) (so : ∀ g ∈ lg, g.2 ∈ rows.map (·.1)) : LegsG rows (sortR lg) := by
  have p := sortR_perm lg
  exact ⟨by rw [p.length_eq]; exact l6, (p.map (·.1)).nodup_iff.mpr nd, fun g hg => nm g (p.mem_iff.mp hg), fun g hg => so g (p.mem_iff.mp hg), sortR_pw lg⟩
theorem legs_ok {rows lg : Rows2} (h : LegsG rows lg) (rn : ∀ x ∈ rows.map (·.1), nameS x = true) : legsD (rows.map (·.1)) (.list (lg.map rowT)) = true := by
  show (decide ((lg.map rowT).length ≤ 6) && ((lg.map rowT).all (legD (rows.map (·.1))) && (PyData.eqv (.list (lg.map rowT)) (.list (sortD (lg.map rowT))) && decide ((lg.map rowT).map name0).Nodup))) = true
  rw [sortD_R, sortR_id h.pw, List.length_map, decide_eq_true h.l6]
  have e1 : (lg.map rowT).all (legD (rows.map (·.1))) = true := List.all_eq_true.mpr fun d hd => by
    obtain ⟨g, hg, rfl⟩ := List.mem_map.mp hd
    show (nameS g.1 && (nameS g.2 && decide (g.2 ∈ rows.map (·.1)))) = true
    rw [h.nm g hg, rn _ (h.so g hg), decide_eq_true (h.so g hg)]
    rfl
  have e2 : (lg.map rowT).map name0 = lg.map (·.1) := by
    rw [List.map_map]
    rfl
  have c : PyData.canLayAll0 (lg.map rowT) = true := by
    have key : ∀ l : Rows2, (∀ g ∈ l, nameS g.1 = true ∧ nameS g.2 = true) → PyData.canLayAll0 (l.map rowT) = true := by
      intro l
      induction l with
      | nil => exact fun _ => rfl
      | cons g l ih =>
        intro hl
        have q := hl g List.mem_cons_self
        show ((PyData.strOk g.1 && (PyData.strOk g.2 && true)) && PyData.canLayAll0 (l.map rowT)) = true
        rw [ih fun x hx => hl x (List.mem_cons_of_mem _ hx), (okS_name q.1).2, (okS_name q.2).2]
        rfl
    exact key lg fun g hg => ⟨h.nm g hg, rn _ (h.so g hg)⟩
  have e3 : PyData.eqv (.list (lg.map rowT)) (.list (lg.map rowT)) = true := PySem.SeqAt.eqv_refl _ c
  rw [e1, e2, e3, decide_eq_true h.nd]
  rfl
theorem low_rowT (g : Str × Str) : noDict (rowT g) = true ∧ PyData.depth (rowT g) ≤ 20 := ⟨(low_row g).1, Nat.le_trans (low_row g).2 (by decide)⟩
theorem cut_any (cs : List Str) (hi : Option Int) : ∃ k, cutV (cs.map V.str) none hi = (cs.take k).map V.str := by
  unfold cutV
  rw [HT.sIx_none]
  exact ⟨HT.sIx (cs.map V.str).length (cs.map V.str).length hi - 0, by rw [List.drop_zero, List.map_take]⟩
theorem dt_zip {H : Hp} : ∀ {acc : List V} {xs ys : List Str}, ZipAt H acc (xs.map V.str) (ys.map V.str) → acc.length = min xs.length ys.length → (∀ x ∈ xs, nameS x = true) → (∀ y ∈ ys, nameS y = true) → DtAll H acc ((xs.zip ys).map rowT)
  | [], [], _, _, _, _, _ => .nil
  | [], _ :: _, [], _, _, _, _ => .nil
  | [], x :: xs, y :: ys, _, h, _, _ => by
    rw [List.length_cons, List.length_cons, List.length_nil] at h
    omega
  | v :: acc, [], ys, _, h, _, _ => by
    rw [List.length_cons, List.length_nil] at h
    omega
  | v :: acc, x :: xs, [], _, h, _, _ => by
    rw [List.length_cons, List.length_nil] at h
    omega
  | v :: acc, x :: xs, y :: ys, z, h, hx, hy => by
    obtain ⟨T, a, b, e1, e2, e3, e4⟩ := z 0 v rfl
    have e2' : V.str x = a := Option.some.inj e2
    have e3' : V.str y = b := Option.some.inj e3
    subst e1 e2' e3'
    refine .cons (dt_row (hx x List.mem_cons_self) (hy y List.mem_cons_self) e4) (dt_zip (xs := xs) (ys := ys) (fun j w hj => z (j + 1) w hj) ?_ (fun a ha => hx a (List.mem_cons_of_mem _ ha)) fun a ha => hy a (List.mem_cons_of_mem _ ha))
    rw [List.length_cons, List.length_cons, List.length_cons] at h
    omega
end Toy
set_option Elab.async false
set_option linter.all false
set_option maxRecDepth 100000
set_option maxHeartbeats 4000000
namespace Toy
open PySem PySem.Spec PyProof.Rows L2
theorem val_mem : ∀ {rows : Rows2} {x y : Str}, valV (rows.map kvOf) (Sum.inr x) = some (.str y) → (x, y) ∈ rows
  | [], _, _, h => nomatch h
  | q :: rows, x, y, h => by
    rw [mutual_cons] at h
    by_cases e : q.1 = x
    · rw [if_pos e] at h
      have e2 : q.2 = y := V.str.inj (Option.some.inj h)
      rw [← e, ← e2]
      exact List.mem_cons_self
    · rw [if_neg e] at h
      exact List.mem_cons_of_mem _ (val_mem h)
theorem mut_of {rows : Rows2} (g : GoodS rows) : Mut rows := by
  obtain ⟨_, _, _, nd, m⟩ := good_rows g
  refine ⟨nd, fun r hr => ?_⟩
  unfold mutualB at m
  exact val_mem (of_decide_eq_true (List.all_eq_true.mp m r hr))
theorem sortsE_mem {keys : List Str} {rows : Rows2} {ks : List KRow} {cs : List Str} {lg : Rows2} (gk : GoodK keys ks) (hc : ∀ x ∈ cs, x ∈ ks.map (·.1)) (hl : ∀ g ∈ lg, g.2 ∈ keys) : ∀ x ∈ sortsE ks cs lg, x ∈ keys := by
  intro x hx
  unfold sortsE at hx
  rcases List.mem_append.mp hx with h | h
  · obtain ⟨c, hcm, h⟩ := List.mem_flatMap.mp h
    obtain ⟨k, hk, rfl⟩ := List.mem_map.mp (hc c hcm)
    rw [kEnds_of gk.nd hk] at h
    exact ((gk.en k hk).2.2.1 x h).2
  · obtain ⟨g, hg, rfl⟩ := List.mem_map.mp h
    exact hl g hg
theorem seq_rest {t u : TS} {D : Ends} {σ : L2.St} {H : Hp} (Rk : L2.St → Hp → Prop) (h : (∀ σ' H', Rk σ' H' → u D σ' H') → t { D with nx := u D } σ H) (k : ∀ σ' H', Rk σ' H' → u D σ' H') : tSeq t u D σ H := h k
theorem cut_tail : ∀ xs : List V, cutV xs (some 1) none = xs.tail
  | [] => rfl
  | x :: xs => cut_from (x :: xs) 1 (by rw [List.length_cons]; omega)
theorem gn_go {i : Nat} {x : V} {σ : L2.St} {H : Hp} {Q : L2.St → Hp → Prop} (h : Q (σ.set i (some x)) H) : gName i x σ H Q := h
theorem low_pairT (cs : List Str) (lg : Rows2) : Low 20 (.tuple [.list (cs.map .str), .list (lg.map rowT)]) := by
  have q1 := depth_all (n := 0) (ds := cs.map PyData.str) fun d hd => by
    obtain ⟨x, _, rfl⟩ := List.mem_map.mp hd
    exact Nat.le_refl _
  have q2 := depth_all (n := 1) (ds := lg.map rowT) fun d hd => by
    obtain ⟨g, _, rfl⟩ := List.mem_map.mp hd
    exact (low_row g).2
  have q := depth_all (n := 5) (ds := [PyData.list (cs.map .str), .list (lg.map rowT)]) fun d hd => by
    have hd2 : d = .list (cs.map .str) ∨ d = .list (lg.map rowT) := by simpa using hd
    rcases hd2 with rfl | rfl
    · show PyData.depthAll _ + 1 ≤ 5
      omega
    · show PyData.depthAll _ + 1 ≤ 5
      omega
  refine ⟨?_, ?_⟩
  · show (noDicts (cs.map .str) && (noDicts (lg.map rowT) && true)) = true
    rw [noDicts_all fun d hd => by obtain ⟨x, _, rfl⟩ := List.mem_map.mp hd; rfl, noDicts_all fun d hd => by obtain ⟨g, _, rfl⟩ := List.mem_map.mp hd; exact (low_row g).1]
    rfl
  · show PyData.depthAll _ + 1 ≤ 20
    omega
end Toy
set_option Elab.async false
set_option linter.all false
set_option maxRecDepth 100000
set_option maxHeartbeats 4000000
namespace Toy
open PySem PySem.Spec PyProof.Rows L2
/-- all ends can be joined, sort by sort -/
def Bal (rows : Rows2) (xs : List Str) : Prop := ∀ r ∈ rows, (r.1 = r.2 → xs.count r.1 % 2 = 0) ∧ (r.1 ≠ r.2 → xs.count r.1 = xs.count r.2)
theorem want_not {xs : List Str} {r : Str × Str} {s : Str} (h : r.2 ≠ s) : (wantR xs r).count s = 0 := by
  unfold wantR
  by_cases c : r.1 = r.2
  · rw [if_pos c, List.count_replicate]
    rw [c]
    simp [h]
  · rw [if_neg c, List.count_replicate]
    simp [h]
theorem want_sum {xs : List Str} {s p : Str} : ∀ l : Rows2, (l.map (·.1)).Nodup → (∀ r ∈ l, r.2 = s → r.1 = p) → ((p, s) ∈ l → (wantL l xs).count s = (wantR xs (p, s)).count s) ∧ ((p, s) ∉ l → (wantL l xs).count s = 0)
  | [], _, _ => ⟨(fun z => nomatch z), fun _ => rfl⟩
  | r :: l, nd, ho => by
    rw [List.map_cons, List.nodup_cons] at nd
    have ih := want_sum (xs := xs) l nd.2 fun q hq => ho q (List.mem_cons_of_mem _ hq)
    have e : (wantL (r :: l) xs).count s = (wantR xs r).count s + (wantL l xs).count s := by
      show (wantR xs r ++ wantL l xs).count s = _
      rw [List.count_append]
    rw [e]
    by_cases c : r.2 = s
    · have er : r = (p, s) := Prod.ext (ho r List.mem_cons_self c) c
      have no : (p, s) ∉ l := fun z => nd.1 (by rw [er]; exact List.mem_map_of_mem (f := fun q : Str × Str => q.1) z)
      rw [ih.2 no, er]
      exact ⟨fun _ => rfl, fun z => absurd List.mem_cons_self z⟩
    · rw [want_not c, Nat.zero_add]
      refine ⟨fun z => ?_, fun z => ih.2 fun y => z (List.mem_cons_of_mem _ y)⟩
      rcases List.mem_cons.mp z with y | y
      · exact absurd (by rw [← y]) c
      · exact ih.1 y
theorem want_count {rows : Rows2} (m : Mut rows) {xs : List Str} {s p : Str} (h : (s, p) ∈ rows) : (wantL rows xs).count s = if p = s then xs.count s % 2 else xs.count p - xs.count s := by
  have q := (want_sum (xs := xs) (s := s) (p := p) rows m.nd fun r hr e => by
    have h2 := m.mt r hr
    rw [e] at h2
    have o := m.one h2 h rfl
    exact congrArg Prod.snd o).1 (m.mt _ h)
  rw [q]
  unfold wantR
  by_cases c : p = s
  · rw [if_pos c, if_pos c]
    show (List.replicate (xs.count p % 2) p).count s = _
    rw [c, List.count_replicate_self]
  · rw [if_neg c, if_neg c]
    show (List.replicate (xs.count p - xs.count s) s).count s = _
    rw [List.count_replicate_self]
theorem bal_want {rows : Rows2} (m : Mut rows) (xs : List Str) : Bal rows (xs ++ wantL rows xs) := by
  intro r hr
  have q1 := want_count m (xs := xs) (s := r.1) (p := r.2) hr
  have q2 := want_count m (xs := xs) (s := r.2) (p := r.1) (m.mt r hr)
  refine ⟨fun e => ?_, fun e => ?_⟩
  · rw [List.count_append, q1, if_pos e.symm]
    omega
  · rw [List.count_append, List.count_append, q1, q2, if_neg fun z => e z.symm, if_neg e]
    omega
theorem Bal.perm {rows : Rows2} {xs ys : List Str} (p : xs.Perm ys) (h : Bal rows xs) : Bal rows ys := fun r hr => by
  have q := h r hr
  rw [p.count_eq, p.count_eq] at q
  exact q
/-- taking a thing and a partner of it away -/
theorem Bal.less {rows : Rows2} (m : Mut rows) {x p : Str} {xs : List Str} (h : (x, p) ∈ rows) (b : Bal rows (x :: p :: xs)) : Bal rows xs := fun r hr => by
  have q := b r hr
  by_cases c1 : r.1 = x
  · have e := m.one hr h c1
    rw [e] at q ⊢
    show (x = p → _) ∧ (x ≠ p → _)
    have q' : (x = p → (x :: p :: xs).count x % 2 = 0) ∧ (x ≠ p → (x :: p :: xs).count x = (x :: p :: xs).count p) := q
    refine ⟨fun z => ?_, fun z => ?_⟩
    · have y := q'.1 z
      rw [← z, List.count_cons_self, List.count_cons_self] at y
      show xs.count x % 2 = 0
      omega
    · have y := q'.2 z
      rw [List.count_cons_self, List.count_cons_of_ne (fun w => z w.symm), List.count_cons_of_ne z, List.count_cons_self] at y
      show xs.count x = xs.count p
      omega
  · by_cases c2 : r.1 = p
    · have e := m.one hr (m.mt _ h) c2
      rw [e] at q ⊢
      have q' : (p = x → (x :: p :: xs).count p % 2 = 0) ∧ (p ≠ x → (x :: p :: xs).count p = (x :: p :: xs).count x) := q
      show (p = x → _) ∧ (p ≠ x → _)
      have z : p ≠ x := fun w => c1 (by rw [c2, w])
      refine ⟨fun w => absurd w z, fun _ => ?_⟩
      have y := q'.2 z
      rw [List.count_cons_self, List.count_cons_of_ne z, List.count_cons_of_ne (fun w => z w.symm), List.count_cons_self] at y
      show xs.count p = xs.count x
      omega
    · have n1 : r.2 ≠ x := fun w => c2 (by
        have o := m.mt _ hr
        rw [w] at o
        exact congrArg Prod.snd (m.one o h rfl))
      have n2 : r.2 ≠ p := fun w => c1 (by
        have o := m.mt _ hr
        rw [w] at o
        exact congrArg Prod.snd (m.one o (m.mt _ h) rfl))
      rw [List.count_cons_of_ne (fun w => c1 w.symm), List.count_cons_of_ne (fun w => c2 w.symm), List.count_cons_of_ne (fun w => n1 w.symm), List.count_cons_of_ne (fun w => n2 w.symm)] at q
      exact q
/-- what is taken has a partner left -/
theorem Bal.partner {rows : Rows2} {x p : Str} {xs : List Str} (h : (x, p) ∈ rows) (b : Bal rows (x :: xs)) : 1 ≤ xs.count p := by
  have q := b _ h
  by_cases c : x = p
  · have y := q.1 c
    have y' : (x :: xs).count x % 2 = 0 := y
    rw [List.count_cons_self] at y'
    rw [← c]
    omega
  · have y := q.2 c
    have y' : (x :: xs).count x = (x :: xs).count p := y
    rw [List.count_cons_self, List.count_cons_of_ne c] at y'
    omega
end Toy
set_option Elab.async false
set_option linter.all false
set_option maxRecDepth 100000
set_option maxHeartbeats 4000000
namespace Toy
open PySem PySem.Spec PyProof.Rows L2
section
variable {P : Program} {w : World} {K : PySem.W.Frag} {mg : Str → Option Value} {base : Heap}
theorem scNumber : FnScope ["thing"] ["thing"] (defScope sNumber) := ⟨rfl, rfl, rfl, by decide +kernel, rfl, by decide +kernel, by decide +kernel⟩
theorem ok_number {f : Addr} {fd : FuncData} (F : Fun K "is_number" "is_number" sNumber f fd) (M : Mods mg) (mi : mg "int" = none) (mb : mg "bool" = none) : FnOk P w K mg base CX0 1 f fd ["thing"] spNumber := by
  refine F.ok scNumber (fun vs H Q E h => ?_) (fun cdv A outer s H vs Q E hr h => ?_)
  · obtain ⟨v, d, rfl, _⟩ := h
    rfl
  · obtain ⟨v, d, rfl, hd, k⟩ := h
    refine ⟨_, pss_one (ps_ret (pe_and (pe_callB (call_isd (T := "int")) (by rfl) M.isi (by decide +kernel) (pa_cons (pv 0) (pa_cons (pe_bltn (v := .ty "int") (by rfl) mi (by decide +kernel) rfl) pa_nil)))
      (pe_one (pe_not (pe_callB (call_isd (T := "bool")) (by rfl) M.isi (by decide +kernel) (pa_cons (pv 0) (pa_cons (pe_bltn (v := .ty "bool") (by rfl) mb (by decide +kernel) rfl) pa_nil))))))), ?_⟩
    refine ⟨_, rfl, v, d, _, rfl, hd, kit_int d, _, rfl, ?_⟩
    cases d with
    | int i => exact ⟨_, rfl, v, _, _, rfl, hd, kit_bool _, _, rfl, k⟩
    | bool b => exact ⟨_, rfl, v, _, _, rfl, hd, kit_bool _, _, rfl, k⟩
    | _ => exact k
end
end Toy
set_option Elab.async false
set_option linter.all false
set_option maxRecDepth 100000
set_option maxHeartbeats 4000000
namespace Toy
open PySem PySem.Spec PyProof.Rows L2
/-! ### one join -/
abbrev End := Nat × Str
abbrev JRow := End × End
def endT (e : End) : PyData := .tuple [.int (e.1 : Nat), .str e.2]
def joinT (j : JRow) : PyData := .tuple [.int (j.1.1 : Nat), .str j.1.2, .int (j.2.1 : Nat), .str j.2.2]
def joinV (j : JRow) : List V := [.int (j.1.1 : Nat), .str j.1.2, .int (j.2.1 : Nat), .str j.2.2]
theorem ix3 {xs : List V} {u v y z : V} : atI (u :: v :: y :: z :: xs) 3 = some z := atI_nat (j := 3) rfl
def endLe (p q : End) : Bool := !PySem.W.dataLt (endT q) (endT p)
structure GoodJ (rows : Rows2) (j : JRow) : Prop where
  pr : (j.1.2, j.2.2) ∈ rows
  le : endLe j.1 j.2 = true
  n1 : nameS j.1.2 = true
  n2 : nameS j.2.2 = true
def spIsJoin (C : Addr) : Sp := fun vs H Q _ => ∃ (st t : Addr) (rows : Rows2) (ks : List KRow) (j : JRow), vs = [.ref st, .ref t] ∧ StkG C H st rows ks ∧ TupAt H t (joinV j) ∧ GoodJ rows j ∧ ∀ H', Same H H' → Q (.bl true) H'
theorem dt_join {H : Hp} {t : Addr} {j : JRow} {rows : Rows2} (gj : GoodJ rows j) (tq : TupAt H t (joinV j)) : Dt H (.ref t) (joinT j) :=
  .tup tq (by show 4 ≤ 1000; decide) (.cons (.int _) (.cons (.str _ (okS_name gj.n1)) (.cons (.int _) (.cons (.str _ (okS_name gj.n2)) .nil))))
theorem dt_endT {H : Hp} {t : Addr} {e : End} (n : nameS e.2 = true) (tq : TupAt H t [.int (e.1 : Nat), .str e.2]) : Dt H (.ref t) (endT e) := .tup tq (by show 2 ≤ 1000; decide) (.cons (.int _) (.cons (.str _ (okS_name n)) .nil))
theorem shape_of {H : Hp} {v : V} {d : PyData} (h : Dt H v d) (l : Low 20 d) : SeqAt.shaped d = true := by
  have c := h.can l.nd
  unfold SeqAt.shaped
  rw [c, decide_eq_true (by have := l.dep; omega)]
  rfl
theorem low_endT (e : End) : Low 20 (endT e) := by
  refine ⟨rfl, ?_⟩
  have q := depth_all (n := 0) (ds := [PyData.int (e.1 : Nat), .str e.2]) fun d hd => by
    have hd2 : d = .int (e.1 : Nat) ∨ d = .str e.2 := by simpa using hd
    rcases hd2 with rfl | rfl
    · exact Nat.le_refl _
    · exact Nat.le_refl _
  show PyData.depthAll [PyData.int (e.1 : Nat), .str e.2] + 1 ≤ 20
  omega
theorem low_rows (rs : Rows2) : Low 20 (.list (rs.map rowT)) := ⟨noDicts_all fun d hd => by obtain ⟨g, _, rfl⟩ := List.mem_map.mp hd; exact (low_row g).1, by
  have q := depth_all (n := 1) (ds := rs.map rowT) fun d hd => by
    obtain ⟨g, _, rfl⟩ := List.mem_map.mp hd
    exact (low_row g).2
  show PyData.depthAll (rs.map rowT) + 1 ≤ 20
  omega⟩
theorem alike_ends (p q : End) : PySem.W.alike (endT p) (endT q) = true := by
  show PySem.W.alike (.tuple [.int _, .str _]) (.tuple [.int _, .str _]) = true
  simp [PySem.W.alike, PySem.W.alikeAll]
section
variable {P : Program} {w : World} {K : PySem.W.Frag} {mg : Str → Option Value} {base : Heap}
theorem scIsJoin : FnScope ["stock", "row"] ["stock", "row"] (defScope sIsJoin) := ⟨rfl, rfl, rfl, by decide +kernel, rfl, by decide +kernel, by decide +kernel⟩
theorem ok_isJoin {f fB fX C CN : Addr} {fd fdB : FuncData} (F : Fun K "is_join" "is_join" sIsJoin f fd) (M : Mods mg) (T : StkC K mg C CN fX)
    (GB : FnOk P w K mg base CX0 1 fB fdB ["thing"] spNumber) (kB : PySem.W.keepIn K (.ref fB) = true) (bB : Binds K fdB ["thing"] []) (gB : mg "is_number" = some (.ref fB)) :
    FnOk P w K mg base CX0 2 f fd ["stock", "row"] (spIsJoin C) := by
  refine F.ok scIsJoin (fun vs H Q E h => ?_) (fun cdv A outer s H vs Q E hr h => ?_)
  · obtain ⟨st, t, rows, ks, j, rfl, _⟩ := h
    rfl
  · obtain ⟨st, t, rows, ks, j, rfl, sg, tq, gj, k⟩ := h
    have hu65 : (A.deeper (envOfC "is_join" (defScope sIsJoin) s.heap.objs.size f cdv)).units + 65 < cLine := by
      have := hr.un
      omega
    refine ⟨_, (pss_cons (ps_if (PW.pt (pw_or (pt_not (pt_val (pe_callB (call_isd (T := "tuple")) (by rfl) M.isi (by decide +kernel) (pa_cons (pv 1) (pa_cons (pe_bltn (v := .ty "tuple") (by rfl) M.tup_ (by decide +kernel) rfl) pa_nil))))) (pw_or1 (pt_cmpR op_ne (pe_callB call_len_seq (by rfl) M.len PySem.boot_len (pa_cons (pv 1) pa_nil)) pe_int (nomark _))))) (pss_one (ps_ret pe_bl)) pss_nil)
      (pss_cons (ps_if (PW.pt (pw_or (pt_not (pt_val (pe_call GB hr (by rfl) gB kB bB .nil pass0 (pa_cons (pe_ix ix_tup (pv 1) pe_int (fun _ _ => rfl)) pa_nil)))) (pw_or1 (pt_not (pt_val (pe_call GB hr (by rfl) gB kB bB .nil pass0 (pa_cons (pe_ix ix_tup (pv 1) pe_int (fun _ _ => rfl)) pa_nil))))))) (pss_one (ps_ret pe_bl)) pss_nil)
      (pss_cons (ps_if (PW.pt (pw_or (pt_not (pt_val (pe_callB (call_isd (T := "str")) (by rfl) M.isi (by decide +kernel) (pa_cons (pe_ix ix_tup (pv 1) pe_int (fun _ _ => rfl)) (pa_cons (pe_bltn (v := .ty "str") (by rfl) M.str_ (by decide +kernel) rfl) pa_nil))))) (pw_or1 (pt_not (pt_val (pe_callB (call_isd (T := "str")) (by rfl) M.isi (by decide +kernel) (pa_cons (pe_ix ix_tup (pv 1) pe_int (fun _ _ => rfl)) (pa_cons (pe_bltn (v := .ty "str") (by rfl) M.str_ (by decide +kernel) rfl) pa_nil)))))))) (pss_one (ps_ret pe_bl)) pss_nil)
      (pss_one (ps_ret (pe_and (pe_cmpR (op_inD hu65) (pe_tup (pa_cons (pe_ix ix_tup (pv 1) pe_int (fun _ _ => rfl)) (pa_cons (pe_ix ix_tup (pv 1) pe_int (fun _ _ => rfl)) pa_nil))) (pe_fld (pv 0) rfl) (by rfl)) (pe_one (pe_cmpR (op_leD hr.units) (pe_slice sl_tup (pv 1) po_none (po_some pe_int)) (pe_slice sl_tup (pv 1) (po_some pe_int) po_none) (nomark _))))))))), ?_⟩
    have dj := dt_join gj tq
    refine ⟨_, rfl, .ref t, joinT j, _, rfl, dj, kit_tuple _, _, rfl, ?_⟩
    dsimp only
    rw [if_neg (by show ¬ ((false : Bool) = true); decide)]
    refine ⟨_, rfl, t, _, rfl, .inr tq.sq, rfl, _, rfl, ?_⟩
    dsimp only
    rw [if_neg (by simp [joinV])]
    refine ⟨_, rfl, t, _, 0, _, rfl, rfl, tq.sq, ix0, _, .int _, rfl, .int _, _, rfl, ?_⟩
    dsimp only
    rw [if_neg (by show ¬ ((false : Bool) = true); decide)]
    refine ⟨_, rfl, t, _, 2, _, rfl, rfl, tq.sq, ix2, _, .int _, rfl, .int _, _, rfl, ?_⟩
    dsimp only
    rw [if_neg (by show ¬ ((false : Bool) = true); decide)]
    refine ⟨_, rfl, t, _, 1, _, rfl, rfl, tq.sq, ix1, .str j.1.2, .str j.1.2, _, rfl, .str _ (okS_name gj.n1), kit_str _, _, rfl, ?_⟩
    dsimp only
    rw [if_neg (by show ¬ ((false : Bool) = true); decide)]
    refine ⟨_, rfl, t, _, 3, _, rfl, rfl, tq.sq, ix3, .str j.2.2, .str j.2.2, _, rfl, .str _ (okS_name gj.n2), kit_str _, _, rfl, ?_⟩
    dsimp only
    rw [if_neg (by show ¬ ((false : Bool) = true); decide)]
    refine ⟨_, rfl, t, _, 1, _, rfl, rfl, tq.sq, ix1, _, rfl, t, _, 3, _, rfl, rfl, tq.sq, ix3, by show 2 ≤ sizeLine; decide, fun u nu => ?_⟩
    obtain ⟨⟨dx, l, m, ea, dl, dm⟩, _, _⟩ := sg.at_
    have t1 := same_new (o := .tup [.str j.1.2, .str j.2.2]) nu
    have du : Dt (upd H u (.tup [.str j.1.2, .str j.2.2])) (.ref u) (rowT (j.1.2, j.2.2)) := dt_row gj.n1 gj.n2 upd_same
    have dl1 := dl.same t1
    have tq1 := tq.same t1
    have ea1 := t1 _ _ ea
    generalize upd H u (.tup [.str j.1.2, .str j.2.2]) = H1 at t1 du dl1 tq1 ea1 ⊢
    have lr : Low 20 (rowT (j.1.2, j.2.2)) := ⟨(low_rowT _).1, (low_rowT _).2⟩
    have lrs := low_rows rows
    refine ⟨_, rfl, st, C, dx, _, _, rfl, ea1, T.cl, T.nS, sf_sorts _ _, rowT (j.1.2, j.2.2), rows.map rowT, du.dp lr.nd, dl1.dp lrs.nd, shape_of du lr, shape_of dl1 lrs, _, rfl, ?_⟩
    have any1 : (rows.map rowT).any (fun z => PyData.eqv z (rowT (j.1.2, j.2.2))) = true := List.any_eq_true.mpr ⟨_, List.mem_map_of_mem (f := rowT) gj.pr, PySem.SeqAt.eqv_refl _ (du.can lr.nd)⟩
    rw [any1]
    refine ⟨_, rfl, 2, rfl, t, _, rfl, tq1.sq, by show ¬ (HT.sIx 4 0 none = 0 ∧ HT.sIx 4 4 (some 2) = 4); decide, fun p np => ?_⟩
    have c1 : cutV (joinV j) none (some 2) = [.int (j.1.1 : Nat), .str j.1.2] := cut_to (joinV j) 2
    rw [c1]
    have t2 := same_new (o := .tup [.int (j.1.1 : Nat), .str j.1.2]) np
    have tq2 := tq1.same t2
    have d1 : Dt (upd H1 p (.tup [.int (j.1.1 : Nat), .str j.1.2])) (.ref p) (endT j.1) := dt_endT gj.n1 (.of upd_same)
    generalize upd H1 p (.tup [.int (j.1.1 : Nat), .str j.1.2]) = H2 at t2 tq2 d1 ⊢
    refine ⟨_, rfl, 2, rfl, t, _, rfl, tq2.sq, by show ¬ (HT.sIx 4 0 (some 2) = 0 ∧ HT.sIx 4 4 none = 4); decide, fun q nq => ?_⟩
    have c2 : cutV (joinV j) (some 2) none = [.int (j.2.1 : Nat), .str j.2.2] := cut_from (joinV j) 2 (by show 2 ≤ 4; decide)
    rw [c2]
    have t3 := same_new (o := .tup [.int (j.2.1 : Nat), .str j.2.2]) nq
    have d1' := d1.same t3
    have d2 : Dt (upd H2 q (.tup [.int (j.2.1 : Nat), .str j.2.2])) (.ref q) (endT j.2) := dt_endT gj.n2 (.of upd_same)
    have l1 := low_endT j.1
    have l2 := low_endT j.2
    refine ⟨endT j.1, endT j.2, d1'.dp l1.nd, d2.dp l2.nd, alike_ends _ _, (by intro z; cases z), l1.dep, ?_⟩
    have e : (!PySem.W.dataLt (endT j.2) (endT j.1)) = true := gj.le
    dsimp only
    rw [e]
    exact k _ ((t1.trans t2).trans t3)
end
end Toy
set_option Elab.async false
set_option linter.all false
set_option maxRecDepth 100000
set_option maxHeartbeats 4000000
namespace Toy
open PySem PySem.Spec PyProof.Rows L2
def JoinP (H : Hp) (v : V) (j : JRow) : Prop := ∃ t, v = .ref t ∧ TupAt H t (joinV j)
def JoinsAt (H : Hp) (vs : List V) (js : List JRow) : Prop := Paired (JoinP H) vs js
theorem JoinsAt.same {H H' : Hp} (s : Same H H') {vs : List V} {js : List JRow} (h : JoinsAt H vs js) : JoinsAt H' vs js := L2.Paired.mapP h fun _ _ ⟨q, e, t⟩ => ⟨q, e, t.same s⟩
theorem JoinsAt.len {H : Hp} {vs : List V} {js : List JRow} (h : JoinsAt H vs js) : vs.length = js.length := (show Paired (JoinP H) vs js from h).length
theorem JoinsAt.dt {H : Hp} {rows : Rows2} : ∀ {vs : List V} {js : List JRow}, JoinsAt H vs js → (∀ j ∈ js, GoodJ rows j) → DtAll H vs (js.map joinT)
  | _, [], .nil, _ => .nil
  | _, j :: js, .cons ⟨t, e, tq⟩ r, g => by
    subst e
    exact .cons (dt_join (g j List.mem_cons_self) tq) (JoinsAt.dt r fun x hx => g x (List.mem_cons_of_mem _ hx))
theorem EndsAt.dt {H : Hp} : ∀ {vs : List V} {es : List (Nat × Str)}, EndsAt H vs es → (∀ e ∈ es, nameS e.2 = true) → DtAll H vs (es.map endT)
  | _, [], .nil, _ => .nil
  | _, j :: js, .cons ⟨t, e, tq⟩ r, g => by
    subst e
    exact .cons (dt_endT (g j List.mem_cons_self) tq) (EndsAt.dt r fun x hx => g x (List.mem_cons_of_mem _ hx))
theorem low_joinT (j : JRow) : Low 20 (joinT j) := by
  refine ⟨rfl, ?_⟩
  have q := depth_all (n := 0) (ds := [PyData.int (j.1.1 : Nat), .str j.1.2, .int (j.2.1 : Nat), .str j.2.2]) fun d hd => by
    have hd2 : d = .int (j.1.1 : Nat) ∨ d = .str j.1.2 ∨ d = .int (j.2.1 : Nat) ∨ d = .str j.2.2 := by simpa using hd
    rcases hd2 with rfl | rfl | rfl | rfl <;> exact Nat.le_refl _
  show PyData.depthAll [PyData.int (j.1.1 : Nat), .str j.1.2, .int (j.2.1 : Nat), .str j.2.2] + 1 ≤ 20
  omega
theorem low_lst {ds : List PyData} (h : ∀ d ∈ ds, Low 18 d) : Low 20 (.list ds) := ⟨noDicts_all fun d hd => (h d hd).nd, by
  have q := depth_all (n := 18) fun d hd => (h d hd).dep
  show PyData.depthAll ds + 1 ≤ 20
  omega⟩
theorem low18_end (e : End) : Low 18 (endT e) := by
  refine ⟨rfl, ?_⟩
  have q := depth_all (n := 0) (ds := [PyData.int (e.1 : Nat), .str e.2]) fun d hd => by
    have hd2 : d = .int (e.1 : Nat) ∨ d = .str e.2 := by simpa using hd
    rcases hd2 with rfl | rfl <;> exact Nat.le_refl _
  show PyData.depthAll [PyData.int (e.1 : Nat), .str e.2] + 1 ≤ 18
  omega
theorem low18_join (j : JRow) : Low 18 (joinT j) := by
  refine ⟨rfl, ?_⟩
  have q := depth_all (n := 0) (ds := [PyData.int (j.1.1 : Nat), .str j.1.2, .int (j.2.1 : Nat), .str j.2.2]) fun d hd => by
    have hd2 : d = .int (j.1.1 : Nat) ∨ d = .str j.1.2 ∨ d = .int (j.2.1 : Nat) ∨ d = .str j.2.2 := by simpa using hd
    rcases hd2 with rfl | rfl | rfl | rfl <;> exact Nat.le_refl _
  show PyData.depthAll [PyData.int (j.1.1 : Nat), .str j.1.2, .int (j.2.1 : Nat), .str j.2.2] + 1 ≤ 18
  omega
theorem low_ends (es : List End) : Low 20 (.list (es.map endT)) := low_lst fun d hd => by obtain ⟨e, _, rfl⟩ := List.mem_map.mp hd; exact low18_end e
theorem low_joins (js : List JRow) : Low 20 (.list (js.map joinT)) := low_lst fun d hd => by obtain ⟨e, _, rfl⟩ := List.mem_map.mp hd; exact low18_join e
theorem alike_ends_all (es : List End) : PySem.W.AllAlike (es.map endT) := PySem.W.AllAlike.of fun b b' => by
  show PySem.W.alike (.tuple [.int _, .str _]) (.tuple [.int _, .str _]) = true
  simp [PySem.W.alike, PySem.W.alikeAll]
theorem alike_joins (js : List JRow) : PySem.W.AllAlike (js.map joinT) := PySem.W.AllAlike.of fun b b' => by
  show PySem.W.alike (.tuple [.int _, .str _, .int _, .str _]) (.tuple [.int _, .str _, .int _, .str _]) = true
  simp [PySem.W.alike, PySem.W.alikeAll]
theorem sortable_ends (es : List End) : PySem.W.Sortable (es.map endT) := PySem.W.Sortable.tuples fun b => ⟨.int (b.1 : Nat), [.str b.2], rfl⟩
theorem sortable_joins (js : List JRow) : PySem.W.Sortable (js.map joinT) := PySem.W.Sortable.tuples fun b => ⟨.int (b.1.1 : Nat), [.str b.1.2, .int (b.2.1 : Nat), .str b.2.2], rfl⟩
theorem eqD_same {K : PySem.W.Frag} {H : Hp} {Q : VK} {x y : V} {d : PyData} (h1 : Dt H x d) (h2 : Dt H y d) (l : Low 20 d) (q : Q (.bl true) H) : rEqD K x y H Q :=
  ⟨d, d, h1.dp l.nd, h2.dp l.nd, shape_of h1 l, shape_of h2 l, by rw [PySem.SeqAt.eqv_refl d (h1.can l.nd)]; exact q⟩
def spAreJoins (C : Addr) : Sp := fun vs H Q _ => ∃ (a c g l : Addr) (rows : Rows2) (ks : List KRow) (cs : List Str) (lg : Rows2) (ws : List V) (js : List JRow), vs = [.ref a, .ref c, .ref g, .ref l] ∧ StkP C H a rows ks ∧ (∀ k ∈ ks, k.2.length ≤ 5) ∧ H c = some (.lst (cs.map V.str)) ∧ cs.length ≤ 6 ∧
  (∀ x ∈ cs, x ∈ ks.map (·.1)) ∧ Dt H (.ref g) (.list (lg.map rowT)) ∧ lg.length ≤ 6 ∧ (∀ e ∈ allE ks cs lg, nameS e.2 = true) ∧ H l = some (.lst ws) ∧ ws.length ≤ 40 ∧ JoinsAt H ws js ∧ (∀ j ∈ js, GoodJ rows j) ∧ sortD (js.map joinT) = js.map joinT ∧ sortD ((js.map (·.1) ++ js.map (·.2)).map endT) = (allE ks cs lg).map endT ∧ ∀ H', Same H H' → Q (.bl true) H'
section
variable {P : Program} {w : World} {K : PySem.W.Frag} {mg : Str → Option Value} {base : Heap}
abbrev ajN : List Str := ["stock", "corners", "legs", "joins", "row", "joined"]
theorem scAreJoins : FnScope ajN ["stock", "corners", "legs", "joins"] (defScope sAreJoins) := ⟨rfl, rfl, rfl, by decide +kernel, rfl, by decide +kernel, by decide +kernel⟩
theorem ok_areJoins {f fJ fA fX C CN : Addr} {fd fdJ fdA : FuncData} (F : Fun K "_are_joins" "_are_joins" sAreJoins f fd) (M : Mods mg) (T : StkC K mg C CN fX)
    (GJ : FnOk P w K mg base CX0 2 fJ fdJ ["stock", "row"] (spIsJoin C)) (kJ : PySem.W.keepIn K (.ref fJ) = true) (bJ : Binds K fdJ ["stock", "row"] []) (gJ : mg "is_join" = some (.ref fJ))
    (GA : FnOk P w K mg base CX0 1 fA fdA ["stock", "corners", "legs"] (spAllEnds C)) (kA : PySem.W.keepIn K (.ref fA) = true) (bA : Binds K fdA ["stock", "corners", "legs"] []) (gA : mg "all_ends" = some (.ref fA)) :
    FnOk P w K mg base CX0 3 f fd ["stock", "corners", "legs", "joins"] (spAreJoins C) := by
  refine F.ok scAreJoins (fun vs H Q E h => ?_) (fun cdv A outer s H vs Q E hr h => ?_)
  · obtain ⟨a, c, g, l, rows, ks, cs, lg, ws, js, rfl, _⟩ := h
    rfl
  · obtain ⟨a, c, g, l, rows, ks, cs, lg, ws, js, rfl, sg, k5, hc, l6, hcs, dg, lg6, nam, hl, lw, ja, gj, srt, srt2, k⟩ := h
    have hr1 : Room 1 (A.deeper (envOfC "_are_joins" (defScope sAreJoins) s.heap.objs.size f cdv)) := hr.mono (by decide)
    have hr2 : Room 2 (A.deeper (envOfC "_are_joins" (defScope sAreJoins) s.heap.objs.size f cdv)) := hr.mono (by decide)
    refine ⟨_, (pss_cons (ps_if (PW.pt (pw_or (pt_not (pt_val (pe_callB (call_isd (T := "list")) (by rfl) M.isi (by decide +kernel) (pa_cons (pv 3) (pa_cons (pe_bltn (v := .ty "list") (by rfl) M.lst_ (by decide +kernel) rfl) pa_nil))))) (pw_or1 (pt_not (pt_val (pe_callB (cr_all rfl) (by rfl) M.all_ (by decide +kernel) (pa_cons (pe_lc (own := [("row", 4)]) (g := gName 4) (tt := tYes) (te := (tCall (spIsJoin C) [] E0 (tCons (tVar 0) (tCons (tVar 4) tNil)))) rfl scAreJoins.nd (pi_list (pv 3)) (blkOk_by (N := ajN) (sc := defScope sAreJoins) (by decide +kernel)) (fun _ _ _ _ _ => pg_name (i := 4) scAreJoins.nd rfl (Or.inl rfl)) (fun _ _ _ _ _ => pts_nil) (fun _ _ _ _ _ => (by exact (pe_call GJ hr2 (by rfl) gJ kJ bJ .nil pass0 (pa_cons (pv 0) (pa_cons (pv 4) pa_nil)))))) pa_nil))))))) (pss_one (ps_ret pe_bl)) pss_nil)
      (pss_cons (ps_set (i := 5) scAreJoins.nd rfl (Or.inl rfl) (pe_op op_cat (pe_lc (own := [("row", 4)]) (g := gName 4) (tt := tYes) (te := (tSl (rSlT K) (tVar 4) tNoPart (tPart (tC (.int 2))))) rfl scAreJoins.nd (pi_list (pv 3)) (blkOk_by (N := ajN) (sc := defScope sAreJoins) (by decide +kernel)) (fun _ _ _ _ _ => pg_name (i := 4) scAreJoins.nd rfl (Or.inl rfl)) (fun _ _ _ _ _ => pts_nil) (fun _ _ _ _ _ => (by exact (pe_slice sl_tup (pv 4) po_none (po_some pe_int))))) (pe_lc (own := [("row", 4)]) (g := gName 4) (tt := tYes) (te := (tSl (rSlT K) (tVar 4) (tPart (tC (.int 2))) tNoPart)) rfl scAreJoins.nd (pi_list (pv 3)) (blkOk_by (N := ajN) (sc := defScope sAreJoins) (by decide +kernel)) (fun _ _ _ _ _ => pg_name (i := 4) scAreJoins.nd rfl (Or.inl rfl)) (fun _ _ _ _ _ => pts_nil) (fun _ _ _ _ _ => (by exact (pe_slice sl_tup (pv 4) (po_some pe_int) po_none))))))
      (pss_one (ps_ret (pe_and (pe_cmpR (op_eqD hr.units) (pv 3) (pe_callB (cr_sortD hr.units) (by rfl) M.srt (by decide +kernel) (pa_cons (pv 3) pa_nil)) (nomark _)) (pe_one (pe_cmpR (op_eqD hr.units) (pe_callB (cr_sortD hr.units) (by rfl) M.srt (by decide +kernel) (pa_cons (pv 5) pa_nil)) (pe_call GA hr1 (by rfl) gA kA bA .nil pass0 (pa_cons (pv 0) (pa_cons (pv 1) (pa_cons (pv 2) pa_nil)))) (nomark _)))))))), ?_⟩
    have dl : Dt H (.ref l) (.list (js.map joinT)) := .lst hl (by omega) (ja.dt gj)
    have lj := ja.len
    refine ⟨_, rfl, .ref l, .list (js.map joinT), _, rfl, dl, kit_list _, _, rfl, ?_⟩
    dsimp only
    rw [if_neg (by show ¬ ((false : Bool) = true); decide)]
    refine ⟨_, rfl, l, rfl, ⟨_, SqL.of hl⟩, fun D hD => ?_⟩
    refine lc_mapW (walk_list (K := K) (a := l) (xs := ws)) (js.map fun _ => V.bl true) (by rw [List.length_map, lj]) (by omega) hD (fun H1 s1 => SqL.of (s1 _ _ hl)) (fun i H x H' h => by rw [h.1]; exact Same.refl _) (fun i y H1 H2 R hi s1 hy hR => ?_) (fun H1 s1 hD1 => ?_)
    · obtain ⟨rfl, hy⟩ := hy
      obtain ⟨j, hj, t, rfl, tq⟩ := paired_at ja hy
      exact ⟨rfl, _, rfl, _, rfl, a, t, rows, ks, j, rfl, (sg.same s1).g, tq.same s1, gj j (List.mem_of_getElem? hj), fun H3 s3 => hR _ _ (by rw [List.getElem?_map, hj]; rfl) s3⟩
    · refine ⟨D, js.map fun _ => true, rfl, ?_, _, rfl, ?_⟩
      · rw [List.map_map]
        exact SqL.of hD1
      have s01 := s1
      rw [show (js.map fun _ => true).all id = true by simp]
      dsimp only
      rw [if_neg (by show ¬ ((false : Bool) = true); decide)]
      refine ⟨_, rfl, l, rfl, ⟨_, SqL.of (s01 _ _ hl)⟩, fun D2 nD2 => ?_⟩
      refine lc_it (walk_list (K := K) (a := l) (xs := ws)) (fun i H' => Same H1 (del H' D2) ∧ ∃ vs2, H' D2 = some (.lst vs2) ∧ EndsAt (del H' D2) vs2 ((js.take i).map (·.1))) ⟨same_del' nD2, [], upd_same, .nil⟩ (fun i H' _ h => SqL.of (del_sub _ _ (h.1 _ _ (s01 _ _ hl)))) ?_ ?_
      · rintro i x H30 H3 hi ⟨s3, vs3, hD3, ev3⟩ ⟨rfl, hx⟩
        obtain ⟨j, hj, t, rfl, tq⟩ := paired_at ja hx
        have tq3 := ((tq.same (s01)).same s3).same del_sub
        refine ⟨rfl, ?_⟩
        delta tYes
        dsimp only
        rw [if_pos rfl]
        refine ⟨_, rfl, 2, rfl, t, _, rfl, tq3.sq, by show ¬ (HT.sIx 4 0 none = 0 ∧ HT.sIx 4 4 (some 2) = 4); decide, fun p np => ?_⟩
        have c1 : cutV (joinV j) none (some 2) = [.int (j.1.1 : Nat), .str j.1.2] := cut_to (joinV j) 2
        rw [c1]
        have npD : p ≠ D2 := (ne_of_none hD3 np).symm
        have t4 := same_new (o := .tup [.int (j.1.1 : Nat), .str j.1.2]) np
        have hp : upd H3 p (.tup [.int (j.1.1 : Nat), .str j.1.2]) p = some (.tup [.int (j.1.1 : Nat), .str j.1.2]) := upd_same
        have hD4 := t4 _ _ hD3
        have s4 := s3.trans (same_del (l := D2) t4)
        have ev4 := ev3.same (same_del (l := D2) t4)
        generalize upd H3 p (.tup [.int (j.1.1 : Nat), .str j.1.2]) = H4 at t4 hp hD4 s4 ev4 ⊢
        have lv : vs3.length ≤ 40 := by
          have q := ev3.len
          rw [List.length_map, List.length_take] at q
          omega
        refine ⟨vs3, hD4, small1000 (by omega), s4.trans del_upd_same, vs3 ++ [.ref p], upd_same, ?_⟩
        rw [take_snoc hj, List.map_append]
        refine (ev4.same del_upd_same).app (.cons ⟨p, rfl, .of ?_⟩ .nil)
        rw [del_ne npD, upd_ne npD]
        exact hp
      rintro H5 ⟨s5, vs5, hD5, ev5⟩
      rw [lj, List.take_of_length_le (Nat.le_refl _)] at ev5
      have s05 := s01.trans (s5.trans del_sub)
      refine ⟨_, rfl, l, rfl, ⟨_, SqL.of (s05 _ _ hl)⟩, fun D3 nD3 => ?_⟩
      refine lc_it (walk_list (K := K) (a := l) (xs := ws)) (fun i H' => Same H5 (del H' D3) ∧ ∃ vs2, H' D3 = some (.lst vs2) ∧ EndsAt (del H' D3) vs2 ((js.take i).map (·.2))) ⟨same_del' nD3, [], upd_same, .nil⟩ (fun i H' _ h => SqL.of (del_sub _ _ (h.1 _ _ (s05 _ _ hl)))) ?_ ?_
      · rintro i x H30 H3 hi ⟨s3, vs3, hD3, ev3⟩ ⟨rfl, hx⟩
        obtain ⟨j, hj, t, rfl, tq⟩ := paired_at ja hx
        have tq3 := ((tq.same (s05)).same s3).same del_sub
        refine ⟨rfl, ?_⟩
        delta tYes
        dsimp only
        rw [if_pos rfl]
        refine ⟨_, rfl, 2, rfl, t, _, rfl, tq3.sq, by show ¬ (HT.sIx 4 0 (some 2) = 0 ∧ HT.sIx 4 4 none = 4); decide, fun p np => ?_⟩
        have c1 : cutV (joinV j) (some 2) none = [.int (j.2.1 : Nat), .str j.2.2] := cut_from (joinV j) 2 (by show 2 ≤ 4; decide)
        rw [c1]
        have npD : p ≠ D3 := (ne_of_none hD3 np).symm
        have t4 := same_new (o := .tup [.int (j.2.1 : Nat), .str j.2.2]) np
        have hp : upd H3 p (.tup [.int (j.2.1 : Nat), .str j.2.2]) p = some (.tup [.int (j.2.1 : Nat), .str j.2.2]) := upd_same
        have hD4 := t4 _ _ hD3
        have s4 := s3.trans (same_del (l := D3) t4)
        have ev4 := ev3.same (same_del (l := D3) t4)
        generalize upd H3 p (.tup [.int (j.2.1 : Nat), .str j.2.2]) = H4 at t4 hp hD4 s4 ev4 ⊢
        have lv : vs3.length ≤ 40 := by
          have q := ev3.len
          rw [List.length_map, List.length_take] at q
          omega
        refine ⟨vs3, hD4, small1000 (by omega), s4.trans del_upd_same, vs3 ++ [.ref p], upd_same, ?_⟩
        rw [take_snoc hj, List.map_append]
        refine (ev4.same del_upd_same).app (.cons ⟨p, rfl, .of ?_⟩ .nil)
        rw [del_ne npD, upd_ne npD]
        exact hp
      rintro H6 ⟨s6, vs6, hD6, ev6⟩
      rw [lj, List.take_of_length_le (Nat.le_refl _)] at ev6
      have s56 := s6.trans (del_sub (H := H6) (p := D3))
      have s06 := s05.trans s56
      have hD56 := s56 _ _ hD5
      have l5 := ev5.len
      have l6' := ev6.len
      rw [List.length_map] at l5 l6'
      refine ⟨D2, D3, vs5, vs6, rfl, rfl, hD56, hD6, ?_, fun jn njn => ?_⟩
      · rw [sizeLine_eq]
        omega
      have ev56 := ((ev5.same del_sub).same s56).app (ev6.same del_sub)
      have t7 := same_new (o := .lst (vs5 ++ vs6)) njn
      have s07 := s06.trans t7
      have hjn : upd H6 jn (.lst (vs5 ++ vs6)) jn = some (.lst (vs5 ++ vs6)) := upd_same
      have ev7 := ev56.same t7
      generalize upd H6 jn (.lst (vs5 ++ vs6)) = H7 at t7 s07 hjn ev7 ⊢
      have ln : (vs5 ++ vs6).length ≤ 1000 := by
        rw [List.length_append]
        omega
      have nmJ : ∀ e ∈ js.map (·.1) ++ js.map (·.2), nameS e.2 = true := fun e he => by
        rcases List.mem_append.mp he with q | q
        · obtain ⟨j, hj, rfl⟩ := List.mem_map.mp q
          exact (gj j hj).n1
        · obtain ⟨j, hj, rfl⟩ := List.mem_map.mp q
          exact (gj j hj).n2
      have djn : Dt H7 (.ref jn) (.list ((js.map (·.1) ++ js.map (·.2)).map endT)) := .lst hjn ln (ev7.dt nmJ)
      have dl7 := dl.same s07
      refine ⟨_, rfl, _, rfl, ?_⟩
      delta tNil
      dsimp only
      refine sort_ok dl7 (fun d hd => by obtain ⟨e, _, rfl⟩ := List.mem_map.mp hd; exact ⟨(low_joinT e).nd, (low_joinT e).dep⟩) (alike_joins js) (sortable_joins js) fun p8 H8 dp8 s8 => ?_
      rw [srt] at dp8
      refine eqD_same (dl7.same s8) dp8 (low_joins js) ⟨_, rfl, ?_⟩
      refine ⟨_, rfl, ?_⟩
      dsimp only
      refine sort_ok (djn.same s8) (fun d hd => by obtain ⟨e, _, rfl⟩ := List.mem_map.mp hd; exact ⟨(low_endT e).nd, (low_endT e).dep⟩) (alike_ends_all _) (sortable_ends _) fun p9 H9 dp9 s9 => ?_
      rw [srt2] at dp9
      have s09 := (s07.trans s8).trans s9
      refine ⟨_, rfl, _, rfl, _, rfl, a, c, g, rows, ks, cs, lg, rfl, sg.same s09, k5, s09 _ _ hc, l6, hcs, dg.same s09, lg6, fun p' H10 vs np' s10 hp' ev => ?_⟩
      have lvs := ev.len
      have q36 : (allE ks cs lg).length ≤ 1000 := by
        have h1 := cornE_len k5 cs 0
        have h2 := congrArg List.length (legE_sorts lg cs.length)
        rw [List.length_map, List.length_map] at h2
        unfold allE
        rw [List.length_append]
        omega
      refine eqD_same (dp9.same s10) (.lst hp' (by omega) (ev.dt nam)) (low_ends _) ?_
      exact k _ (s09.trans s10)
end
end Toy
set_option Elab.async false
set_option linter.all false
set_option maxRecDepth 100000
set_option maxHeartbeats 4000000
namespace Toy
open PySem PySem.Spec PyProof.Rows L2
/-- the fields of a drawing -/
def df (a l1 l2 l3 : Addr) : List (Str × V) := putF "joins" (.ref l3) (putF "legs" (.ref l2) (putF "corners" (.ref l1) (putF "stock" (.ref a) [])))
structure DrC (K : PySem.W.Frag) (mg : Str → Option Value) (D : Addr) : Prop where
  cl : Cls K D
  nS : NoAttr K D "stock"
  nC : NoAttr K D "corners"
  nL : NoAttr K D "legs"
  nJ : NoAttr K D "joins"
  mgD : mg "Drawing" = some (.ref D)
/-- what a drawing is made of -/
structure DrawIn (C : Addr) (H : Hp) (a c g l : Addr) (rows : Rows2) (ks : List KRow) (cs : List Str) (lg : Rows2) (gs ws : List V) (js : List JRow) : Prop where
  sg : StkP C H a rows ks
  k5 : ∀ k ∈ ks, k.2.length ≤ 5
  hc : H c = some (.lst (cs.map V.str))
  l6 : cs.length ≤ 6
  hcs : ∀ x ∈ cs, x ∈ ks.map (·.1)
  ncs : ∀ x ∈ cs, nameS x = true
  hg : H g = some (.lst gs)
  dg : Dt H (.ref g) (.list (lg.map rowT))
  lok : legsD (rows.map (·.1)) (.list (lg.map rowT)) = true
  lg6 : lg.length ≤ 6
  nam : ∀ e ∈ allE ks cs lg, nameS e.2 = true
  hl : H l = some (.lst ws)
  lw : ws.length ≤ 40
  ja : JoinsAt H ws js
  gj : ∀ j ∈ js, GoodJ rows j
  srt : sortD (js.map joinT) = js.map joinT
  srt2 : sortD ((js.map (·.1) ++ js.map (·.2)).map endT) = (allE ks cs lg).map endT
def spDInit (C D : Addr) : Sp := fun vs H Q _ => ∃ (self dx a c g l : Addr) (rows : Rows2) (ks : List KRow) (cs : List Str) (lg : Rows2) (gs ws : List V) (js : List JRow), vs = [.ref self, .ref a, .ref c, .ref g, .ref l] ∧ H self = some (.ins D dx []) ∧ DrawIn C H a c g l rows ks cs lg gs ws js ∧
  ∀ (l1 l2 l3 : Addr) (H' : Hp), H l1 = none → H l2 = none → H l3 = none → l1 ≠ l2 → l1 ≠ l3 → l2 ≠ l3 → H' self = some (.ins D dx (df a l1 l2 l3)) → H' l1 = some (.lst (cs.map V.str)) → H' l2 = some (.lst gs) → H' l3 = some (.lst ws) → Off self H H' → Q .non H'
section
variable {P : Program} {w : World} {K : PySem.W.Frag} {mg : Str → Option Value} {base : Heap}
theorem scDInit : FnScope ["self", "stock", "corners", "legs", "joins"] ["self", "stock", "corners", "legs", "joins"] (defScope sDInit) := ⟨rfl, rfl, rfl, by decide +kernel, rfl, by decide +kernel, by decide +kernel⟩
theorem off_none {H H' : Hp} {p q : Addr} (o : Off p H H') (n : H' q = none) (ne : q ≠ p) : H q = none := by
  cases z : H q with
  | none => rfl
  | some x =>
    have e := o _ _ z ne
    rw [n] at e
    cases e
theorem ok_dInit {f fP fJ fX C CN D : Addr} {fd fdP fdJ fdX : FuncData} (F : Fun K "__init__" "Drawing.__init__" sDInit f fd) (M : Mods mg) (N : NoDrC K mg CN fX) (T : DrC K mg D)
    (GP : FnOk P w K mg base (L2.CX P w) 4 fP fdP ["stock", "corners", "legs"] (spPlaces C CN)) (kP : PySem.W.keepIn K (.ref fP) = true) (bP : Binds K fdP ["stock", "corners", "legs"] []) (gP : mg "check_places" = some (.ref fP))
    (GJ : FnOk P w K mg base CX0 3 fJ fdJ ["stock", "corners", "legs", "joins"] (spAreJoins C)) (kJ : PySem.W.keepIn K (.ref fJ) = true) (bJ : Binds K fdJ ["stock", "corners", "legs", "joins"] []) (gJ : mg "_are_joins" = some (.ref fJ))
    (GX : FnOk P w K mg base CX0 1 fX fdX ["self", "part"] (spExI CN "part")) (bX : Binds K fdX ["self", "part"] []) :
    FnOk P w K mg base (L2.CX P w) 5 f fd ["self", "stock", "corners", "legs", "joins"] (spDInit C D) := by
  refine F.okX scDInit (fun vs H Q E h => ?_) (fun cdv A outer s H vs Q E hr h => ?_)
  · obtain ⟨self, dx, a, c, g, l, rows, ks, cs, lg, gs, ws, js, rfl, _⟩ := h
    rfl
  · obtain ⟨self, dx, a, c, g, l, rows, ks, cs, lg, gs, ws, js, rfl, hself, I, yes⟩ := h
    obtain ⟨sg, k5, hc, l6, hcs, ncs, hg, dg, lok, lg6, nam, hl, lw, ja, gj, srt, srt2⟩ := I
    have hr2 : Room 2 _ := hr.mono (by decide)
    have hr3 : Room 3 _ := hr.mono (by decide)
    refine ⟨_, pss_cons (ps_expr (pe_callS (E := noE) GP hr (by rfl) gP kP bP (fun σ => passN σ) (pa_cons (pv 1) (pa_cons (pv 2) (pa_cons (pv 3) pa_nil)))))
      (pss_cons (ps_if (pt_not (pt_val (pe_call GJ hr3 (by rfl) gJ kJ bJ .nil pass0 (pa_cons (pv 1) (pa_cons (pv 2) (pa_cons (pv 3) (pa_cons (pv 4) pa_nil))))))) (pss_one (ps_raise rfl (takes_of rfl rfl rfl rfl) (pmk_oex N.ox N.ini N.fun_ GX hr2 bX .nil pass0 (by rfl) N.mgN (pa_cons pe_str pa_nil)))) pss_nil)
      (pss_cons (ps_fld (pv 0) (pv 1) rfl)
      (pss_cons (ps_fld (pv 0) (pe_callTy call_list_of (by rfl) M.lst_ (by decide +kernel) (pa_cons (pv 2) pa_nil)) rfl)
      (pss_cons (ps_fld (pv 0) (pe_callTy call_list_of (by rfl) M.lst_ (by decide +kernel) (pa_cons (pv 3) pa_nil)) rfl)
      (pss_one (ps_fld (pv 0) (pe_callTy call_list_of (by rfl) M.lst_ (by decide +kernel) (pa_cons (pv 4) pa_nil)) rfl)))))), ?_⟩
    have dc : Dt H (.ref c) (.list (cs.map .str)) := dt_lstrs hc (by omega) ncs
    refine ⟨_, rfl, _, rfl, _, rfl, a, rows, ks, .ref c, .ref g, _, _, rfl, sg.g, dc, dg, fun no => ?_, fun _ no => ?_, fun _ _ H1 s1 => ?_⟩
    · rw [corners_ok l6 hcs ncs] at no
      cases no
    · rw [lok] at no
      cases no
    refine ⟨_, rfl, _, rfl, _, rfl, _, rfl, a, c, g, l, rows, ks, cs, lg, ws, js, rfl, sg.same s1, k5, s1 _ _ hc, l6, hcs, dg.same s1, lg6, nam, s1 _ _ hl, lw, ja.same s1, gj, srt, srt2, fun H2 s2 => ⟨_, rfl, ?_⟩⟩
    dsimp only
    rw [if_neg (by show ¬ ((false : Bool) = true); decide)]
    have s12 := s1.trans s2
    have hs2 := s12 _ _ hself
    have ncs' : c ≠ self := ne_of hc hself (by intro z; cases z)
    have ngs' : g ≠ self := ne_of hg hself (by intro z; cases z)
    have nls' : l ≠ self := ne_of hl hself (by intro z; cases z)
    refine ⟨_, rfl, _, rfl, self, D, dx, [], rfl, hs2, T.cl, T.nS, (by show 0 < 1000; decide), ?_⟩
    have o3 : Off self H2 (upd H2 self (.ins D dx (putF "stock" (.ref a) []))) := Off.upd
    have e3 : upd H2 self (.ins D dx (putF "stock" (.ref a) [])) self = some (.ins D dx (putF "stock" (.ref a) [])) := upd_same
    generalize upd H2 self (.ins D dx (putF "stock" (.ref a) [])) = H3 at o3 e3 ⊢
    have oA := (Same.off (p := self) s12).trans o3
    refine ⟨_, rfl, c, _, rfl, .inl (SqL.of (oA _ _ hc ncs')), fun l1 n1 => ?_⟩
    have ne1 : self ≠ l1 := ne_of_none e3 n1
    have nH1 : H l1 = none := off_none oA n1 ne1.symm
    have t4 := same_new (o := .lst (cs.map V.str)) n1
    have hl1 : upd H3 l1 (.lst (cs.map V.str)) l1 = some (.lst (cs.map V.str)) := upd_same
    have e4 := t4 _ _ e3
    generalize upd H3 l1 (.lst (cs.map V.str)) = H4 at t4 hl1 e4 ⊢
    have oB := oA.trans (Same.off t4)
    refine ⟨_, rfl, self, D, dx, _, rfl, e4, T.cl, T.nC, (by show 1 < 1000; decide), ?_⟩
    have o5 : Off self H4 (upd H4 self (.ins D dx (putF "corners" (.ref l1) (putF "stock" (.ref a) [])))) := Off.upd
    have e5 : upd H4 self (.ins D dx (putF "corners" (.ref l1) (putF "stock" (.ref a) []))) self = some (.ins D dx (putF "corners" (.ref l1) (putF "stock" (.ref a) []))) := upd_same
    generalize upd H4 self (.ins D dx (putF "corners" (.ref l1) (putF "stock" (.ref a) []))) = H5 at o5 e5 ⊢
    have oC := oB.trans o5
    have hl1' := o5 _ _ hl1 ne1.symm
    refine ⟨_, rfl, g, _, rfl, .inl (SqL.of (oC _ _ hg ngs')), fun l2 n2 => ?_⟩
    have ne2 : self ≠ l2 := ne_of_none e5 n2
    have n12 : l1 ≠ l2 := ne_of_none hl1' n2
    have nH2 : H l2 = none := off_none oC n2 ne2.symm
    have t6 := same_new (o := .lst gs) n2
    have hl2 : upd H5 l2 (.lst gs) l2 = some (.lst gs) := upd_same
    have e6 := t6 _ _ e5
    have hl16 := t6 _ _ hl1'
    generalize upd H5 l2 (.lst gs) = H6 at t6 hl2 e6 hl16 ⊢
    have oD := oC.trans (Same.off t6)
    refine ⟨_, rfl, self, D, dx, _, rfl, e6, T.cl, T.nL, (by show 2 < 1000; decide), ?_⟩
    have o7 : Off self H6 (upd H6 self (.ins D dx (putF "legs" (.ref l2) (putF "corners" (.ref l1) (putF "stock" (.ref a) []))))) := Off.upd
    have e7 : upd H6 self (.ins D dx (putF "legs" (.ref l2) (putF "corners" (.ref l1) (putF "stock" (.ref a) [])))) self = some (.ins D dx (putF "legs" (.ref l2) (putF "corners" (.ref l1) (putF "stock" (.ref a) [])))) := upd_same
    generalize upd H6 self (.ins D dx (putF "legs" (.ref l2) (putF "corners" (.ref l1) (putF "stock" (.ref a) [])))) = H7 at o7 e7 ⊢
    have oE := oD.trans o7
    have hl17 := o7 _ _ hl16 ne1.symm
    have hl27 := o7 _ _ hl2 ne2.symm
    refine ⟨_, rfl, l, _, rfl, .inl (SqL.of (oE _ _ hl nls')), fun l3 n3 => ?_⟩
    have ne3 : self ≠ l3 := ne_of_none e7 n3
    have n13 : l1 ≠ l3 := ne_of_none hl17 n3
    have n23 : l2 ≠ l3 := ne_of_none hl27 n3
    have nH3 : H l3 = none := off_none oE n3 ne3.symm
    have t8 := same_new (o := .lst ws) n3
    have hl3 : upd H7 l3 (.lst ws) l3 = some (.lst ws) := upd_same
    have e8 := t8 _ _ e7
    have hl18 := t8 _ _ hl17
    have hl28 := t8 _ _ hl27
    generalize upd H7 l3 (.lst ws) = H8 at t8 hl3 e8 hl18 hl28 ⊢
    have oF := oE.trans (Same.off t8)
    refine ⟨_, rfl, self, D, dx, _, rfl, e8, T.cl, T.nJ, (by show 3 < 1000; decide), ?_⟩
    have o9 : Off self H8 (upd H8 self (.ins D dx (df a l1 l2 l3))) := Off.upd
    exact yes l1 l2 l3 _ nH1 nH2 nH3 n12 n13 n23 upd_same (o9 _ _ hl18 ne1.symm) (o9 _ _ hl28 ne2.symm) (o9 _ _ hl3 ne3.symm) (oF.trans o9)
end
end Toy
set_option Elab.async false
set_option linter.all false
set_option maxRecDepth 100000
set_option maxHeartbeats 4000000
namespace Toy
open PySem PySem.Spec PyProof.Rows L2
/-! ### the order of ends -/
def endR (p q : End) : Prop := p.1 < q.1 ∨ (p.1 = q.1 ∧ p.2.cps.toList ≤ q.2.cps.toList)
theorem eqvI (x y : Int) : PyData.eqv (.int x) (.int y) = decide (x = y) := by
  show (x == y) = decide (x = y)
  by_cases h : x = y
  · rw [h, decide_eq_true rfl]
    simp
  · rw [decide_eq_false h]
    simpa using h
theorem endLe_iff (p q : End) : endLe p q = true ↔ endR p q := by
  have e : PySem.W.dataLt (endT q) (endT p) = if PyData.eqv (.int (q.1 : Nat)) (.int (p.1 : Nat)) = true then (if PyData.eqv (.str q.2) (.str p.2) = true then false else PySem.W.dataLt (.str q.2) (.str p.2)) else PySem.W.dataLt (.int (q.1 : Nat)) (.int (p.1 : Nat)) :=
    PySem.W.dataLt_pair (by simp [PySem.W.alike]) (by simp [PySem.W.alike])
  unfold endLe
  rw [e, eqvI, eqvS, strLt, PySem.W.dataLt_int]
  unfold endR
  by_cases h1 : q.1 = p.1
  · rw [if_pos (decide_eq_true (by omega))]
    by_cases h2 : q.2 = p.2
    · rw [if_pos (decide_eq_true h2), h1, h2]
      exact ⟨fun _ => .inr ⟨rfl, List.le_refl _⟩, fun _ => rfl⟩
    · rw [if_neg (by simpa using h2)]
      by_cases h3 : q.2.cps.toList < p.2.cps.toList
      · rw [decide_eq_true h3]
        refine ⟨fun z => by simp at z, fun z => ?_⟩
        rcases z with z | ⟨_, z⟩
        · omega
        · exact absurd h3 (List.not_lt.mpr z)
      · rw [decide_eq_false h3]
        exact ⟨fun _ => .inr ⟨h1.symm, List.not_lt.mp h3⟩, fun _ => rfl⟩
  · rw [if_neg (by simp; omega)]
    by_cases h3 : q.1 < p.1
    · rw [decide_eq_true (by omega)]
      refine ⟨fun z => by simp at z, fun z => ?_⟩
      rcases z with z | ⟨z, _⟩ <;> omega
    · rw [decide_eq_false (by omega)]
      exact ⟨fun _ => .inl (by omega), fun _ => rfl⟩
theorem endR_trans {a b c : End} (h1 : endR a b) (h2 : endR b c) : endR a c := by
  unfold endR at *
  rcases h1 with h1 | ⟨h1, g1⟩
  · rcases h2 with h2 | ⟨h2, _⟩
    · exact .inl (by omega)
    · exact .inl (by omega)
  · rcases h2 with h2 | ⟨h2, g2⟩
    · exact .inl (by omega)
    · exact .inr ⟨by omega, List.le_trans g1 g2⟩
theorem endR_total (a b : End) : endR a b ∨ endR b a := by
  unfold endR
  by_cases h1 : a.1 < b.1
  · exact .inl (.inl h1)
  · by_cases h2 : b.1 < a.1
    · exact .inr (.inl h2)
    · rcases List.le_total a.2.cps.toList b.2.cps.toList with h | h
      · exact .inl (.inr ⟨by omega, h⟩)
      · exact .inr (.inr ⟨by omega, h⟩)
theorem endR_anti {a b : End} (h1 : endR a b) (h2 : endR b a) : a = b := by
  unfold endR at *
  rcases h1 with h1 | ⟨h1, g1⟩
  · rcases h2 with h2 | ⟨h2, _⟩ <;> omega
  · rcases h2 with h2 | ⟨_, g2⟩
    · omega
    · exact Prod.ext h1 (str_ext (List.le_antisymm g1 g2))
theorem endR_refl (a : End) : endR a a := .inr ⟨rfl, List.le_refl _⟩
theorem ends_one : ∀ {xs ys : List End}, xs.Perm ys → xs.Pairwise endR → ys.Pairwise endR → xs = ys
  | [], ys, p, _, _ => (List.nil_perm.mp p).symm
  | x :: xs, [], p, _, _ => absurd p.length_eq (by simp)
  | x :: xs, y :: ys, p, h1, h2 => by
    have a1 : endR x y := by
      rcases List.mem_cons.mp (p.mem_iff.mpr List.mem_cons_self) with z | z
      · rw [z]
        exact endR_refl _
      · exact (List.pairwise_cons.mp h1).1 _ z
    have a2 : endR y x := by
      rcases List.mem_cons.mp (p.mem_iff.mp List.mem_cons_self) with z | z
      · rw [z]
        exact endR_refl _
      · exact (List.pairwise_cons.mp h2).1 _ z
    have e : x = y := endR_anti a1 a2
    subst e
    rw [ends_one p.cons_inv (List.pairwise_cons.mp h1).2 (List.pairwise_cons.mp h2).2]
theorem sortD_E (es : List End) : sortD (es.map endT) = (es.mergeSort endLe).map endT := by
  unfold sortD
  exact (List.map_mergeSort (f := endT) fun a _ b _ => rfl).symm
theorem ends_sorted {xs es : List End} (p : xs.Perm es) (h : es.Pairwise endR) : sortD (xs.map endT) = es.map endT := by
  rw [sortD_E]
  refine congrArg (List.map endT) (ends_one ((List.mergeSort_perm xs endLe).trans p) ?_ h)
  have q := List.pairwise_mergeSort (le := endLe) (fun a b c h1 h2 => (endLe_iff a c).mpr (endR_trans ((endLe_iff a b).mp h1) ((endLe_iff b c).mp h2))) (fun a b => by
    rcases endR_total a b with h | h
    · rw [(endLe_iff a b).mpr h]
      rfl
    · rw [(endLe_iff b a).mpr h]
      exact Bool.or_true _) xs
  exact q.imp fun h => (endLe_iff _ _).mp h
/-! ### all ends stand in order -/
theorem corn_from {ks : List KRow} : ∀ {cs : List Str} {i : Nat} {e : End}, e ∈ cornE ks i cs → i ≤ e.1 ∧ e.1 < i + cs.length
  | c :: cs, i, e, h => by
    rcases List.mem_append.mp (show e ∈ (kEnds ks c).map (fun s => (i, s)) ++ cornE ks (i + 1) cs from h) with z | z
    · obtain ⟨s, _, rfl⟩ := List.mem_map.mp z
      rw [List.length_cons]
      exact ⟨Nat.le_refl i, by show i < _; omega⟩
    · have q := corn_from z
      rw [List.length_cons]
      exact ⟨by omega, by omega⟩
theorem corn_sorted {keys : List Str} {ks : List KRow} (gk : GoodK keys ks) : ∀ {cs : List Str} {i : Nat}, (∀ x ∈ cs, x ∈ ks.map (·.1)) → (cornE ks i cs).Pairwise endR
  | [], i, _ => List.Pairwise.nil
  | c :: cs, i, hc => by
    show ((kEnds ks c).map (fun s => (i, s)) ++ cornE ks (i + 1) cs).Pairwise endR
    rw [List.pairwise_append]
    refine ⟨?_, corn_sorted gk fun x hx => hc x (List.mem_cons_of_mem _ hx), fun a ha b hb => ?_⟩
    · obtain ⟨k, hk, e⟩ := List.mem_map.mp (hc c List.mem_cons_self)
      rw [← e, kEnds_of gk.nd hk, List.pairwise_map]
      exact (sorted_pw (gk.en k hk).2.2.2).imp fun h => .inr ⟨rfl, h⟩
    · obtain ⟨s, _, rfl⟩ := List.mem_map.mp ha
      exact .inl (Nat.lt_of_succ_le (corn_from hb).1)
theorem leg_from : ∀ {lg : Rows2} {i : Nat} {e : End}, e ∈ legE i lg → i ≤ e.1
  | g :: lg, i, e, h => by
    rcases List.mem_cons.mp (show e ∈ (i, g.2) :: legE (i + 1) lg from h) with z | z
    · rw [z]
      exact Nat.le_refl i
    · have q := leg_from z
      omega
theorem leg_sorted : ∀ (lg : Rows2) (i : Nat), (legE i lg).Pairwise endR
  | [], _ => List.Pairwise.nil
  | g :: lg, i => List.pairwise_cons.mpr ⟨fun b hb => .inl (Nat.lt_of_succ_le (leg_from hb)), leg_sorted lg (i + 1)⟩
theorem all_sorted {keys : List Str} {ks : List KRow} {cs : List Str} {lg : Rows2} (gk : GoodK keys ks) (hc : ∀ x ∈ cs, x ∈ ks.map (·.1)) : (allE ks cs lg).Pairwise endR := by
  unfold allE
  rw [List.pairwise_append]
  refine ⟨corn_sorted gk hc, leg_sorted lg _, fun a ha b hb => .inl ?_⟩
  have q1 := (corn_from ha).2
  have q2 := leg_from hb
  omega
end Toy
set_option Elab.async false
set_option linter.all false
set_option maxRecDepth 100000
set_option maxHeartbeats 4000000
namespace Toy
open PySem PySem.Spec PyProof.Rows L2
/-! ### the order of joins -/
theorem joinLt (a b : JRow) : PySem.W.dataLt (joinT a) (joinT b) = if a.1 = b.1 then PySem.W.dataLt (endT a.2) (endT b.2) else PySem.W.dataLt (endT a.1) (endT b.1) := by
  have e : ∀ p q : End, PySem.W.dataLt (endT p) (endT q) = if PyData.eqv (.int (p.1 : Nat)) (.int (q.1 : Nat)) = true then (if PyData.eqv (.str p.2) (.str q.2) = true then false else PySem.W.dataLt (.str p.2) (.str q.2)) else PySem.W.dataLt (.int (p.1 : Nat)) (.int (q.1 : Nat)) := fun p q =>
    PySem.W.dataLt_pair (by simp [PySem.W.alike]) (by simp [PySem.W.alike])
  have i : ∀ x y : Int, PySem.W.alike (.int x) (.int y) = true := fun x y => by simp [PySem.W.alike]
  have s : ∀ x y : Str, PySem.W.alike (.str x) (.str y) = true := fun x y => by simp [PySem.W.alike]
  have z : PyProof.Rows.lexLt PyProof.Rows.itemOrd (PySem.W.keyToksAll []) (PySem.W.keyToksAll []) = false := rfl
  show PySem.W.dataLt (.tuple [.int (a.1.1 : Nat), .str a.1.2, .int (a.2.1 : Nat), .str a.2.2]) (.tuple [.int (b.1.1 : Nat), .str b.1.2, .int (b.2.1 : Nat), .str b.2.2]) = _
  rw [PySem.W.dataLt_tuple, PySem.W.dataLt_cons (i _ _), PySem.W.dataLt_cons (s _ _), PySem.W.dataLt_cons (i _ _), PySem.W.dataLt_cons (s _ _), z, e, e]
  simp only [eqvI, eqvS, decide_eq_true_eq]
  by_cases h : a.1 = b.1
  · rw [if_pos h, if_pos (by rw [h]), if_pos (by rw [h])]
  · rw [if_neg h]
    by_cases h1 : ((a.1.1 : Nat) : Int) = (b.1.1 : Nat)
    · rw [if_pos h1, if_pos h1]
      have h2 : ¬ a.1.2 = b.1.2 := fun q => h (Prod.ext (by omega) q)
      rw [if_neg h2, if_neg h2]
    · rw [if_neg h1, if_neg h1]
def joinLe (a b : JRow) : Bool := PySem.W.dataLe false id (joinT a) (joinT b)
def joinR (a b : JRow) : Prop := (a.1 = b.1 ∧ endR a.2 b.2) ∨ (a.1 ≠ b.1 ∧ endR a.1 b.1)
theorem joinLe_iff (a b : JRow) : joinLe a b = true ↔ joinR a b := by
  have e0 : joinLe a b = !PySem.W.dataLt (joinT b) (joinT a) := rfl
  rw [e0, joinLt]
  unfold joinR
  by_cases h : b.1 = a.1
  · rw [if_pos h]
    have q := endLe_iff a.2 b.2
    unfold endLe at q
    rw [q]
    exact ⟨fun z => .inl ⟨h.symm, z⟩, fun z => z.elim (·.2) fun z => absurd h.symm z.1⟩
  · rw [if_neg h]
    have q := endLe_iff a.1 b.1
    unfold endLe at q
    rw [q]
    exact ⟨fun z => .inr ⟨fun y => h y.symm, z⟩, fun z => z.elim (fun z => absurd z.1.symm h) (·.2)⟩
theorem joinR_trans {a b c : JRow} (h1 : joinR a b) (h2 : joinR b c) : joinR a c := by
  unfold joinR at *
  rcases h1 with ⟨e1, g1⟩ | ⟨e1, g1⟩
  · rcases h2 with ⟨e2, g2⟩ | ⟨e2, g2⟩
    · exact .inl ⟨e1.trans e2, endR_trans g1 g2⟩
    · exact .inr ⟨by rw [e1]; exact e2, by rw [e1]; exact g2⟩
  · rcases h2 with ⟨e2, g2⟩ | ⟨e2, g2⟩
    · exact .inr ⟨by rw [← e2]; exact e1, by rw [← e2]; exact g1⟩
    · refine .inr ⟨fun z => ?_, endR_trans g1 g2⟩
      rw [← z] at g2
      exact e1 (endR_anti g1 g2)
theorem joinR_total (a b : JRow) : joinR a b ∨ joinR b a := by
  unfold joinR
  by_cases h : a.1 = b.1
  · rcases endR_total a.2 b.2 with g | g
    · exact .inl (.inl ⟨h, g⟩)
    · exact .inr (.inl ⟨h.symm, g⟩)
  · rcases endR_total a.1 b.1 with g | g
    · exact .inl (.inr ⟨h, g⟩)
    · exact .inr (.inr ⟨fun z => h z.symm, g⟩)
def sortJ (js : List JRow) : List JRow := js.mergeSort joinLe
theorem sortD_J (js : List JRow) : sortD (js.map joinT) = (sortJ js).map joinT := by
  unfold sortD sortJ
  exact (List.map_mergeSort (f := joinT) fun a _ b _ => rfl).symm
theorem sortJ_perm (js : List JRow) : (sortJ js).Perm js := List.mergeSort_perm _ _
theorem sortJ_idem (js : List JRow) : sortJ (sortJ js) = sortJ js := by
  have q := List.pairwise_mergeSort (le := joinLe) (fun a b c h1 h2 => (joinLe_iff a c).mpr (joinR_trans ((joinLe_iff a b).mp h1) ((joinLe_iff b c).mp h2))) (fun a b => by
    rcases joinR_total a b with h | h
    · rw [(joinLe_iff a b).mpr h]
      rfl
    · rw [(joinLe_iff b a).mpr h]
      exact Bool.or_true _) js
  exact List.mergeSort_of_pairwise q
/-- joins of all ends, each once, sorted: they make a drawing -/
theorem joins_make2 {rows : Rows2} {es : List End} {js : List JRow} (p : (js.map (·.1) ++ js.map (·.2)).Perm es) (pw : es.Pairwise endR) (g : ∀ j ∈ js, GoodJ rows j) :
    (∀ j ∈ sortJ js, GoodJ rows j) ∧ sortD ((sortJ js).map joinT) = (sortJ js).map joinT ∧ sortD (((sortJ js).map (·.1) ++ (sortJ js).map (·.2)).map endT) = es.map endT := by
  have q := sortJ_perm js
  refine ⟨fun j hj => g j (q.mem_iff.mp hj), by rw [sortD_J, sortJ_idem], ?_⟩
  exact ends_sorted (((q.map _).append (q.map _)).trans p) pw
theorem joins_back {H : Hp} : ∀ {vs : List V} {js : List JRow}, DtAll H vs (js.map joinT) → JoinsAt H vs js
  | [], [], _ => .nil
  | [], _ :: _, h => nomatch h
  | _ :: _, [], h => nomatch h
  | v :: vs, j :: js, h => by
    cases h with
    | cons h1 h2 =>
      refine .cons ?_ (joins_back h2)
      generalize ek : joinT j = d at h1
      cases h1 with
      | tup e l r =>
        rename_i a xs0 ds0
        have ed : [PyData.int (j.1.1 : Nat), .str j.1.2, .int (j.2.1 : Nat), .str j.2.2] = ds0 := by
          have q : PyData.tuple [.int (j.1.1 : Nat), .str j.1.2, .int (j.2.1 : Nat), .str j.2.2] = .tuple ds0 := ek
          injection q
        subst ed
        refine ⟨a, rfl, ?_⟩
        cases r with
        | cons a1 r =>
          cases a1
          cases r with
          | cons a2 r =>
            cases a2
            cases r with
            | cons a3 r =>
              cases a3
              cases r with
              | cons a4 r =>
                cases a4
                cases r
                exact e
      | _ => cases ek
theorem JoinsAt.app {H : Hp} : ∀ {vs ws : List V} {es fs : List JRow}, JoinsAt H vs es → JoinsAt H ws fs → JoinsAt H (vs ++ ws) (es ++ fs)
  | _, _, _, _, .nil, h => h
  | _, _, _, _, .cons a t, h => .cons a (JoinsAt.app t h)
theorem ends_back {H : Hp} : ∀ {vs : List V} {es : List End}, DtAll H vs (es.map endT) → EndsAt H vs es
  | [], [], _ => .nil
  | [], _ :: _, h => nomatch h
  | _ :: _, [], h => nomatch h
  | v :: vs, j :: js, h => by
    cases h with
    | cons h1 h2 =>
      refine .cons ?_ (ends_back h2)
      generalize ek : endT j = d at h1
      cases h1 with
      | tup e l r =>
        rename_i a xs0 ds0
        have ed : [PyData.int (j.1 : Nat), .str j.2] = ds0 := by
          have q : PyData.tuple [.int (j.1 : Nat), .str j.2] = .tuple ds0 := ek
          injection q
        subst ed
        refine ⟨a, rfl, ?_⟩
        cases r with
        | cons a1 r =>
          cases a1
          cases r with
          | cons a2 r =>
            cases a2
            cases r
            exact e
      | _ => cases ek
end Toy
set_option Elab.async false
set_option linter.all false
set_option maxRecDepth 100000
set_option maxHeartbeats 4000000
namespace Toy
open PySem PySem.Spec PyProof.Rows L2
theorem df_stock (a l1 l2 l3 : Addr) : (df a l1 l2 l3).lookup ("stock" : Str) = some (.ref a) := by
  unfold df
  rw [lookup_putF, if_neg (by decide +kernel), lookup_putF, if_neg (by decide +kernel), lookup_putF, if_neg (by decide +kernel), lookup_putF, if_pos rfl]
theorem df_corners (a l1 l2 l3 : Addr) : (df a l1 l2 l3).lookup ("corners" : Str) = some (.ref l1) := by
  unfold df
  rw [lookup_putF, if_neg (by decide +kernel), lookup_putF, if_neg (by decide +kernel), lookup_putF, if_pos rfl]
theorem df_legs (a l1 l2 l3 : Addr) : (df a l1 l2 l3).lookup ("legs" : Str) = some (.ref l2) := by
  unfold df
  rw [lookup_putF, if_neg (by decide +kernel), lookup_putF, if_pos rfl]
theorem df_joins (a l1 l2 l3 : Addr) : (df a l1 l2 l3).lookup ("joins" : Str) = some (.ref l3) := by
  unfold df
  rw [lookup_putF, if_pos rfl]
/-- what isinstance and == ask of the class -/
structure DrE (K : PySem.W.Frag) (D : Addr) : Prop where
  ca : PySem.W.findIn K (.ref D) "__class__" = some (some (.builtin "object.__class__"))
  cg : PySem.W.specialIn K (.builtin "object.__class__") "__get__" = some (some (.builtin "getset_descriptor.__get__"))
  ct : PySem.W.takesIn K (.builtin "object.__class__") = some true
  cm : PySem.W.mroIn K D (.type "object") = some true
  kC : PySem.W.kitOne K (.ref D) (.ref D) = some true
def spDEq (C D : Addr) : Sp := fun vs H Q _ => ∃ (x y dx dy a l1 l2 l3 m1 m2 m3 : Addr) (ss ks : List PyData) (d1 d2 d3 : PyData), vs = [.ref x, .ref y] ∧ H x = some (.ins D dx (df a l1 l2 l3)) ∧ H y = some (.ins D dy (df a m1 m2 m3)) ∧ StkAt C H a ss ks ∧
  Dt H (.ref l1) d1 ∧ Dt H (.ref m1) d1 ∧ Dt H (.ref l2) d2 ∧ Dt H (.ref m2) d2 ∧ Dt H (.ref l3) d3 ∧ Dt H (.ref m3) d3 ∧ Low 20 d1 ∧ Low 20 d2 ∧ Low 20 d3 ∧ Q (.bl true) H
theorem flat_eqv {H : Hp} {v : V} {ss : List PyData} (h : Dt H v (.list ss)) (f : Flat ss) : PyData.eqv (.list ss) (.list ss) = true := PySem.SeqAt.eqv_refl _ (h.can f.nd)
section
variable {P : Program} {w : World} {K : PySem.W.Frag} {mg : Str → Option Value} {base : Heap}
theorem scDEq : FnScope ["self", "other"] ["self", "other"] (defScope sDEq) := ⟨rfl, rfl, rfl, by decide +kernel, rfl, by decide +kernel, by decide +kernel⟩
theorem ok_dEq {f fE fX C CN D : Addr} {fd fdE : FuncData} (F : Fun K "__eq__" "Drawing.__eq__" sDEq f fd) (M : Mods mg) (T : StkC K mg C CN fX) (TD : DrC K mg D) (TE : DrE K D) (EQ : EqC K C fE) (nf : PySem.W.notFirst K C (.ref C) = true)
    (GE : FnOk P w K mg base CX0 1 fE fdE ["self", "other"] (spSEq K C)) (bE : Binds K fdE ["self", "other"] []) :
    FnOk P w K mg base CX0 2 f fd ["self", "other"] (spDEq C D) := by
  refine F.ok scDEq (fun vs H Q E h => ?_) (fun cdv A outer s H vs Q E hr h => ?_)
  · obtain ⟨x, y, dx, dy, a, l1, l2, l3, m1, m2, m3, ss, ks, d1, d2, d3, rfl, _⟩ := h
    rfl
  · obtain ⟨x, y, dx, dy, a, l1, l2, l3, m1, m2, m3, ss, ks, d1, d2, d3, rfl, hx, hy, sa, b1, c1, b2, c2, b3, c3, w1, w2, w3, k⟩ := h
    refine ⟨_, pss_one (ps_ret (pe_and (pe_callB call_isi (by rfl) M.isi (by decide +kernel) (pa_cons (pv 1) (pa_cons (pe_gref (by rfl) TD.mgD) pa_nil)))
      (pe_and (pe_cmpR (op_eqO EQ GE hr bE pass0) (pe_fld (pv 0) rfl) (pe_fld (pv 1) rfl) (nomark _))
      (pe_and (pe_cmpR (op_eqD hr.units) (pe_fld (pv 0) rfl) (pe_fld (pv 1) rfl) (nomark _))
      (pe_and (pe_cmpR (op_eqD hr.units) (pe_fld (pv 0) rfl) (pe_fld (pv 1) rfl) (nomark _)) (pe_one (pe_cmpR (op_eqD hr.units) (pe_fld (pv 0) rfl) (pe_fld (pv 1) rfl) (nomark _)))))))), ?_⟩
    have ty : TyX K H (.ref y) (.ref D) := .base (.ins hy TD.cl TE.ca TE.cg TE.ct TE.cm)
    refine ⟨_, rfl, _, _, _, _, true, rfl, .own D, ty, TE.kC, _, rfl, ?_⟩
    have sa2 := sa
    obtain ⟨⟨da, l, m, ea, h1, h2⟩, f1, f2⟩ := sa2
    refine ⟨_, rfl, x, D, dx, _, _, rfl, hx, TD.cl, TD.nS, df_stock _ _ _ _, _, rfl, y, D, dy, _, _, rfl, hy, TD.cl, TD.nS, df_stock _ _ _ _, a, da, _, .ref C, rfl, ea, stk_ty T sa, nf, a, .ref a, ss, ks, rfl, sa, .inl ⟨a, ss, ks, rfl, sa, ?_⟩⟩
    rw [flat_eqv h1 f1, flat_eqv h2 f2]
    refine ⟨_, rfl, _, rfl, ?_⟩
    refine ⟨_, rfl, x, D, dx, _, _, rfl, hx, TD.cl, TD.nC, df_corners _ _ _ _, _, rfl, y, D, dy, _, _, rfl, hy, TD.cl, TD.nC, df_corners _ _ _ _, eqD_same b1 c1 w1 ⟨_, rfl, ?_⟩⟩
    refine ⟨_, rfl, x, D, dx, _, _, rfl, hx, TD.cl, TD.nL, df_legs _ _ _ _, _, rfl, y, D, dy, _, _, rfl, hy, TD.cl, TD.nL, df_legs _ _ _ _, eqD_same b2 c2 w2 ⟨_, rfl, ?_⟩⟩
    exact ⟨_, rfl, x, D, dx, _, _, rfl, hx, TD.cl, TD.nJ, df_joins _ _ _ _, _, rfl, y, D, dy, _, _, rfl, hy, TD.cl, TD.nJ, df_joins _ _ _ _, eqD_same b3 c3 w3 k⟩
end
end Toy
set_option Elab.async false
set_option linter.all false
set_option maxRecDepth 100000
set_option maxHeartbeats 4000000
namespace Toy
open PySem PySem.Spec PyProof.Rows L2
def spLEnds : Sp := fun vs H Q _ => ∃ (lk c g : Addr) (ks : List KRow) (ws : List V) (cs : List Str) (lg : Rows2), vs = [.ref lk, .ref c, .ref g] ∧ H lk = some (.lst ws) ∧ Paired (KndP H) ws ks ∧ (ks.map (·.1)).Nodup ∧ (∀ k ∈ ks, k.2.length ≤ 5) ∧ H c = some (.lst (cs.map V.str)) ∧ cs.length ≤ 6 ∧
  (∀ x ∈ cs, x ∈ ks.map (·.1)) ∧ Dt H (.ref g) (.list (lg.map rowT)) ∧ lg.length ≤ 6 ∧ ∀ p H' vs, H p = none → Same H H' → H' p = some (.lst vs) → EndsAt H' vs (allE ks cs lg) → Q (.ref p) H'
theorem dtrow_at {H : Hp} {gs : List V} {lg : Rows2} (r : DtAll H gs (lg.map rowT)) {i : Nat} (h : i < lg.length) : ∃ q r, gs[i]? = some (.ref q) ∧ lg[i]? = some r ∧ TupAt H q [.str r.1, .str r.2] := by
  obtain ⟨x, hx⟩ : ∃ x, gs[i]? = some x := ⟨_, List.getElem?_eq_getElem (by rw [r.len, List.length_map]; exact h)⟩
  have hr : lg[i]? = some lg[i] := List.getElem?_eq_getElem h
  obtain ⟨q, e, tq⟩ := row_at r hx hr
  exact ⟨q, lg[i], by rw [hx, e], hr, tq⟩
section
variable {P : Program} {w : World} {K : PySem.W.Frag} {mg : Str → Option Value} {base : Heap}
abbrev leN : List Str := ["_law_kinds", "_law_corners", "_law_legs", "_law_found", "_law_place", "_law_kind", "_law_sort", "_law_k"]
theorem scLEnds : FnScope leN ["_law_kinds", "_law_corners", "_law_legs"] (defScope sLEnds) := ⟨rfl, rfl, rfl, by decide +kernel, rfl, by decide +kernel, by decide +kernel⟩
theorem ok_lEnds {f : Addr} {fd : FuncData} (F : Fun K "_law_ends" "_law_ends" sLEnds f fd) (M : Mods mg) (mEn : mg "enumerate" = none) (mR : mg "range" = none) :
    FnOk P w K mg base CX0 1 f fd ["_law_kinds", "_law_corners", "_law_legs"] spLEnds := by
  refine F.ok scLEnds (fun vs H Q E h => ?_) (fun cdv A outer s H vs Q E hr h => ?_)
  · obtain ⟨lk, c, g, ks, ws, cs, lg, rfl, _⟩ := h
    rfl
  · obtain ⟨lk, c, g, ks, ws, cs, lg, rfl, hlk, kn, ndk, k5, hc, l6, hcs, dg, lg6, k⟩ := h
    refine ⟨_, (pss_cons (ps_set (i := 3) scLEnds.nd rfl (Or.inl rfl) (pe_lst pa_nil))
      (pss_cons (ps_for PassesOwn.never rfl (pi_enum (by rfl) mEn (pa_cons (pv 1) pa_nil)) (pg_tup rfl (pgs_cons (pg_name (i := 4) scLEnds.nd rfl (Or.inr rfl)) (pgs_cons (pg_name (i := 5) scLEnds.nd rfl (Or.inl rfl)) pgs_nil))) (pss_one (ps_set (i := 3) scLEnds.nd rfl (Or.inl rfl) (pe_op op_cat (pv 3) (pe_lc (own := [("_law_sort", 6)]) (g := gName 6) (tt := tYes) (te := tTup (tCons (tVar 4) (tCons (tVar 6) tNil))) rfl scLEnds.nd (pi_tup (pe_dget (hu_of hr) (pe_callTy (call_dictP rfl) (by rfl) M.dict_ (by decide +kernel) (pa_cons (pv 0) pa_nil)) (pv 5) (fun _ _ => rfl))) (blkOk_by (N := leN) (sc := defScope sLEnds) (by decide +kernel)) (fun _ _ _ _ _ => pg_name (i := 6) scLEnds.nd rfl (Or.inl rfl)) (fun _ _ _ _ _ => pts_nil) (fun _ _ _ _ _ => (by exact (pe_tup (pa_cons (pv 4) (pa_cons (pv 6) pa_nil))))))))))
      (pss_one (ps_ret (pe_op op_cat (pv 3) (pe_lc (own := [("_law_k", 7)]) (g := gName 7) (tt := tYes) (te := tTup (tCons (tOp (rI0 fun i j => .int (i + j)) (tCB (rLen K) (tCons (tVar 1) tNil)) (tVar 7)) (tCons (tOp (rIxT K) (tOp (rIxL K) (tVar 2) (tVar 7)) (tC (.int 1))) tNil))) rfl scLEnds.nd (pi_range1 (by rfl) mR (pa_cons (pe_callB call_len_seq (by rfl) M.len PySem.boot_len (pa_cons (pv 2) pa_nil)) pa_nil)) (blkOk_by (N := leN) (sc := defScope sLEnds) (by decide +kernel)) (fun _ _ _ _ _ => pg_name (i := 7) scLEnds.nd rfl (Or.inl rfl)) (fun _ _ _ _ _ => pts_nil) (fun _ _ _ _ _ => (by exact (pe_tup (pa_cons (pe_op op_add (pe_callB call_len_seq (by rfl) M.len PySem.boot_len (pa_cons (pv 1) pa_nil)) (pv 7)) (pa_cons (pe_ix ix_tup (pe_ix ix_list (pv 2) (pv 7) (fun _ _ => rfl)) pe_int (fun _ _ => rfl)) pa_nil))))))))))), ?_⟩
    refine ⟨Nat.zero_le _, fun D nD => ?_⟩
    refine ⟨_, rfl, c, _, rfl, SqL.of (same_new nD _ _ hc), for_it (walk_enum (xs := cs.map V.str)) (fun i σ H' => ∃ D vs y4 y5 y6 y7, σ = [some (.ref lk), some (.ref c), some (.ref g), some (.ref D), y4, y5, y6, y7] ∧ Same H H' ∧ H' D = some (.lst vs) ∧ EndsAt H' vs (cornE ks 0 (cs.take i)))
      ⟨D, [], none, none, none, none, rfl, same_new nD, upd_same, .nil⟩ (fun i σ H' _ h => ?_) ?_ ?_⟩
    · obtain ⟨D, vs, y4, y5, y6, y7, rfl, s2, _⟩ := h
      exact SqL.of (s2 _ _ hc)
    · rintro i x σ H2 H3 hi ⟨D, vs, y4, y5, y6, y7, rfl, s2, hD2, ev⟩ ⟨Tq, u, v, rfl, nT, rfl, hu, hv⟩
      cases hu
      obtain ⟨z, hz, rfl⟩ := map_str_at hv
      have t3 := same_new (o := .tup [.int (i : Nat), .str z]) nT
      have hD3 := t3 _ _ hD2
      refine ⟨Tq, _, rfl, SqT.of upd_same, rfl, _, _, rfl, _, _, rfl, rfl, ?_⟩
      have s3 : Same H (upd H2 Tq (.tup [.int (i : Nat), .str z])) := s2.trans t3
      have ev3 := ev.same t3
      generalize upd H2 Tq (.tup [.int (i : Nat), .str z]) = H3 at t3 hD3 s3 ev3 ⊢
      have hzc : z ∈ cs := List.mem_of_getElem? hz
      obtain ⟨ps, kts, exs, ekt, pr, okt⟩ := knds_pairs (K := K) (knds_same s3 kn)
      obtain ⟨kt, hkt, ez, ekv⟩ := kts_val kts z (by rw [ekt]; exact hcs z hzc)
      have hkm : kt.1 ∈ ks := by rw [← ekt]; exact List.mem_map_of_mem (f := (·.1)) hkt
      have eks : kEnds ks z = kt.1.2 := by rw [← ez]; exact kEnds_of ndk hkm
      have pt := okt kt hkt
      have e5 := k5 _ hkm
      have li : i < cs.length := by rw [List.length_map] at hi; exact hi
      have cl := cornE_len k5 (cs.take i) 0
      rw [List.length_take] at cl
      have hw3 := s3 _ _ hlk
      rw [exs] at hw3
      refine ⟨_, rfl, _, rfl, lk, ps, _, rfl, SqL.of hw3, pr, fun dp hdp => ?_⟩
      rw [dict_kts (by rw [ekt]; exact ndk)]
      have t4 := same_new (o := .dK (kts.map kvK)) hdp
      have hd4 : upd H3 dp (.dK (kts.map kvK)) dp = some (.dK (kts.map kvK)) := upd_same
      generalize upd H3 dp (.dK (kts.map kvK)) = H4 at t4 hd4 ⊢
      refine ⟨_, rfl, dp, .ref kt.2, rfl, ?_, kt.2, rfl, ⟨_, (pt.same t4).sq⟩, fun D2 nD2 => ?_⟩
      · rw [← ekv]
        exact DGet.k (k := Sum.inr z) hd4
      have hD4 := t4 _ _ hD3
      refine lc_it (walk_tup (K := K) (a := kt.2) (xs := kt.1.2.map V.str)) (fun j H' => Same H4 (del H' D2) ∧ ∃ vs2, H' D2 = some (.lst vs2) ∧ EndsAt (del H' D2) vs2 ((kt.1.2.take j).map fun s => (i, s))) ⟨same_del' nD2, [], upd_same, .nil⟩ (fun j H' _ h => (((pt.same t4).same h.1).same del_sub).sq) ?_ ?_
      · rintro j x H5 H6 hj ⟨s5, vs5, hD5, ev5⟩ hy
        obtain ⟨rfl, hy⟩ := hy
        obtain ⟨y, hy2, rfl⟩ := map_str_at hy
        rw [List.length_map] at hj
        refine ⟨rfl, ?_⟩
        delta tYes
        dsimp only
        rw [if_pos rfl]
        refine ⟨_, rfl, _, rfl, by show 2 ≤ sizeLine; decide, fun tq ntq => ?_⟩
        have ntD2 : tq ≠ D2 := (ne_of_none hD5 ntq).symm
        have t6 := same_new (o := .tup [.int (i : Nat), .str y]) ntq
        have htq : upd H6 tq (.tup [.int (i : Nat), .str y]) tq = some (.tup [.int (i : Nat), .str y]) := upd_same
        have hD6 := t6 _ _ hD5
        have s6 := s5.trans (same_del (l := D2) t6)
        have ev6 := ev5.same (same_del (l := D2) t6)
        generalize upd H6 tq (.tup [.int (i : Nat), .str y]) = H7 at t6 htq hD6 s6 ev6 ⊢
        have lvs : vs5.length ≤ 40 := by
          have q := ev5.len
          rw [List.length_map, List.length_take] at q
          omega
        have sd : Same (del H7 D2) (del (upd H7 D2 (.lst (vs5 ++ [.ref tq]))) D2) := del_upd_same
        refine ⟨vs5, hD6, small1000 (by omega), s6.trans sd, vs5 ++ [.ref tq], upd_same, ?_⟩
        rw [take_snoc hy2, List.map_append]
        refine (ev6.same sd).app (.cons ⟨tq, rfl, .of ?_⟩ .nil)
        rw [del_ne ntD2, upd_ne ntD2]
        exact htq
      · rintro H5 ⟨s5, vs5, hD5, ev5⟩
        rw [List.length_map, List.take_of_length_le (Nat.le_refl _)] at ev5
        have s35 := t4.trans (s5.trans del_sub)
        have hD5' := s35 _ _ hD3
        have l5 := ev5.len
        rw [List.length_map] at l5
        have lv := ev3.len
        refine ⟨D, D2, vs, vs5, rfl, rfl, hD5', hD5, ?_, fun p np => ?_⟩
        · rw [lv, l5]
          exact Nat.le_trans (Nat.add_le_add cl e5) (Nat.le_trans (Nat.add_le_add (Nat.mul_le_mul (Nat.le_refl 5) (Nat.min_le_right _ _)) (Nat.le_refl 5)) (by rw [sizeLine_eq]; omega))
        · have t6 := same_new (o := .lst (vs ++ vs5)) np
          refine ⟨p, vs ++ vs5, _, _, _, _, rfl, (s3.trans s35).trans t6, upd_same, ?_⟩
          rw [take_snoc hz, cornE_snoc, eks, List.length_take, Nat.zero_add, Nat.min_eq_left (Nat.le_of_lt li)]
          exact ((ev3.same s35).same t6).app ((ev5.same del_sub).same t6)
    · rintro σ H2 ⟨D, vs, y4, y5, y6, y7, rfl, s2, hD2, ev⟩
      rw [List.length_map, List.take_of_length_le (Nat.le_refl _)] at ev
      obtain ⟨gs, hg, lgs, rg⟩ := dt_list (dg.same s2)
      have lgl : gs.length = lg.length := by rw [rg.len, List.length_map]
      refine ⟨_, rfl, _, rfl, g, gs, rfl, .inl (SqL.of hg), _, rfl, by omega, by omega, fun D2 nD2 => ?_⟩
      have eg : ((gs.length : Nat) : Int).toNat = lg.length := by rw [lgl]; exact Int.toNat_natCast _
      rw [eg]
      refine lc_range (lo := 0) (n := lg.length) (fun j H' => Same H2 (del H' D2) ∧ ∃ vs2, H' D2 = some (.lst vs2) ∧ EndsAt (del H' D2) vs2 (legE cs.length (lg.take j))) ⟨same_del' nD2, [], upd_same, .nil⟩ ?_ ?_
      · rintro j H5 hj ⟨s5, vs5, hD5, ev5⟩
        have s5' := s5.trans (del_sub (H := H5) (p := D2))
        obtain ⟨qq, rr, hq, hrr, tq⟩ := dtrow_at rg hj
        refine ⟨rfl, ?_⟩
        delta tYes
        dsimp only
        rw [if_pos rfl]
        refine ⟨_, rfl, c, cs.map V.str, rfl, .inl (SqL.of (s5' _ _ (s2 _ _ hc))), _, rfl, _, _, rfl, rfl, _, rfl, _, rfl, g, gs, _, .ref qq, rfl, rfl, SqL.of (s5' _ _ hg), at_of (by rw [Int.zero_add]) hq, qq, _, 1, _, rfl, rfl, (tq.same s5').sq, ix1, by show 2 ≤ sizeLine; decide, fun tt ntt => ?_⟩
        have ntD2 : tt ≠ D2 := (ne_of_none hD5 ntt).symm
        have e1 : (((cs.map V.str).length : Nat) : Int) + (0 + (j : Int)) = ((cs.length + j : Nat) : Int) := by rw [List.length_map]; omega
        dsimp only
        rw [e1]
        have t6 := same_new (o := .tup [.int ((cs.length + j : Nat) : Int), .str rr.2]) ntt
        have htq : upd H5 tt (.tup [.int ((cs.length + j : Nat) : Int), .str rr.2]) tt = some (.tup [.int ((cs.length + j : Nat) : Int), .str rr.2]) := upd_same
        have hD6 := t6 _ _ hD5
        have s6 := s5.trans (same_del (l := D2) t6)
        have ev6 := ev5.same (same_del (l := D2) t6)
        generalize upd H5 tt (.tup [.int ((cs.length + j : Nat) : Int), .str rr.2]) = H7 at t6 htq hD6 s6 ev6 ⊢
        have lvs : vs5.length ≤ 40 := by
          have q := ev5.len
          have q2 := congrArg List.length (legE_sorts (lg.take j) cs.length)
          rw [List.length_map, List.length_map, List.length_take] at q2
          omega
        have sd : Same (del H7 D2) (del (upd H7 D2 (.lst (vs5 ++ [.ref tt]))) D2) := del_upd_same
        refine ⟨vs5, hD6, small1000 (by omega), s6.trans sd, vs5 ++ [.ref tt], upd_same, ?_⟩
        rw [take_snoc hrr, legE_snoc, List.length_take, Nat.min_eq_left (Nat.le_of_lt hj)]
        refine (ev6.same sd).app (.cons ⟨tt, rfl, .of ?_⟩ .nil)
        rw [del_ne ntD2, upd_ne ntD2]
        exact htq
      · rintro H5 ⟨s5, vs5, hD5, ev5⟩
        rw [List.take_of_length_le (Nat.le_refl _)] at ev5
        have s5' := s5.trans (del_sub (H := H5) (p := D2))
        have l5 := ev5.len
        have q2 := congrArg List.length (legE_sorts lg cs.length)
        rw [List.length_map, List.length_map] at q2
        have lv := ev.len
        have cl := cornE_len k5 cs 0
        refine ⟨D, D2, vs, vs5, rfl, rfl, s5' _ _ hD2, hD5, ?_, fun p np => ?_⟩
        · rw [lv, l5, sizeLine_eq]
          omega
        · have t6 := same_new (o := .lst (vs ++ vs5)) np
          refine k p _ (vs ++ vs5) ((s2.trans s5').free np) ((s2.trans s5').trans t6) upd_same ?_
          exact ((ev.same s5').same t6).app ((ev5.same del_sub).same t6)
end
end Toy
set_option Elab.async false
set_option linter.all false
set_option maxRecDepth 100000
set_option maxHeartbeats 4000000
namespace Toy
open PySem PySem.Spec PyProof.Rows L2
def spLacking : Sp := fun vs H Q _ => ∃ (ls q : Addr) (rows : Rows2) (ES : List End) (es' : List V), vs = [.ref ls, .ref q] ∧ Dt H (.ref ls) (.list (rows.map rowT)) ∧ rows.length ≤ 3 ∧ H q = some (.lst es') ∧ EndsAt H es' ES ∧ ES.length ≤ 60 ∧
  ∀ (p : Addr) (H' : Hp), H p = none → Same H H' → H' p = some (.lst ((wantL rows (ES.map (·.2))).map V.str)) → Q (.ref p) H'
/-- the sorts of the ends that are this one -/
def ofS (ES : List End) (s : Str) : List Str := (ES.filter fun e => decide (e.2 = s)).map (·.2)
theorem ofS_len (s : Str) : ∀ ES : List End, (ofS ES s).length = (ES.map (·.2)).count s
  | [] => rfl
  | e :: ES => by
    have ih := ofS_len s ES
    unfold ofS at ih ⊢
    rw [List.map_cons]
    by_cases h : e.2 = s
    · rw [List.filter_cons_of_pos (by simp [h]), List.map_cons, List.length_cons, ih, h, List.count_cons_self]
    · rw [List.filter_cons_of_neg (by simp [h]), ih, List.count_cons_of_ne h]
theorem ofS_snoc (s : Str) (ES : List End) (e : End) : ofS (ES ++ [e]) s = ofS ES s ++ if e.2 = s then [e.2] else [] := by
  unfold ofS
  rw [List.filter_append, List.map_append]
  by_cases c : e.2 = s
  · rw [if_pos c, List.filter_cons_of_pos (by simp [c])]
    rfl
  · rw [if_neg c, List.filter_cons_of_neg (by simp [c])]
    rfl
theorem wantL_snoc (rows : Rows2) (r : Str × Str) (xs : List Str) : wantL (rows ++ [r]) xs = wantL rows xs ++ wantR xs r := by
  unfold wantL
  rw [List.flatMap_append]
  show _ ++ (wantR xs r ++ []) = _
  rw [List.append_nil]
theorem wantL_len {xs : List Str} (l : xs.length ≤ 60) : ∀ rows : Rows2, (wantL rows xs).length ≤ 60 * rows.length
  | [] => Nat.zero_le _
  | r :: rows => by
    have ih := wantL_len l rows
    have h : (wantR xs r).length ≤ 60 := by
      have c1 : xs.count r.1 ≤ 60 := Nat.le_trans List.count_le_length l
      unfold wantR
      split <;> rw [List.length_replicate] <;> omega
    show (wantR xs r ++ wantL rows xs).length ≤ 60 * (rows.length + 1)
    rw [List.length_append]
    omega
section
variable {P : Program} {w : World} {K : PySem.W.Frag} {mg : Str → Option Value} {base : Heap}
abbrev laN : List Str := ["_law_sorts", "_law_ends_here", "_law_found", "_law_sort", "_law_partner", "_law_many", "_law_place", "_law_one_here"]
theorem scLacking : FnScope laN ["_law_sorts", "_law_ends_here"] (defScope sLacking) := ⟨rfl, rfl, rfl, by decide +kernel, rfl, by decide +kernel, by decide +kernel⟩
theorem ok_lacking {f : Addr} {fd : FuncData} (F : Fun K "_law_lacking" "_law_lacking" sLacking f fd) (M : Mods mg) (mMx : mg "max" = none) :
    FnOk P w K mg base CX0 1 f fd ["_law_sorts", "_law_ends_here"] spLacking := by
  refine F.ok scLacking (fun vs H Q E h => ?_) (fun cdv A outer s H vs Q E hr h => ?_)
  · obtain ⟨ls, q, rows, ES, es', rfl, _⟩ := h
    rfl
  · obtain ⟨ls, q, rows, ES, es', rfl, ds, r3, hq, ev, l60, k⟩ := h
    refine ⟨_, (pss_cons (ps_set (i := 2) scLacking.nd rfl (Or.inl rfl) (pe_lst pa_nil))
      (pss_cons (ps_for PassesOwn.never rfl (pi_list (pv 0)) (pg_tup rfl (pgs_cons (pg_name (i := 3) scLacking.nd rfl (Or.inr rfl)) (pgs_cons (pg_name (i := 4) scLacking.nd rfl (Or.inr rfl)) pgs_nil))) (pss_cons (ps_set (i := 5) scLacking.nd rfl (Or.inl rfl) (pe_callB call_len_seq (by rfl) M.len PySem.boot_len (pa_cons (pe_lc (own := [("_law_place", 6), ("_law_one_here", 7)]) (g := gTup K 2 (gCons (gName 6) (gCons (gName 7) gNil))) (tt := tTest (tOp rEq (tVar 7) (tVar 3))) (te := (tVar 7)) rfl scLacking.nd (pi_list (pv 1)) (blkOk_by (N := laN) (sc := defScope sLacking) (by decide +kernel)) (fun _ _ _ _ _ => (pg_tup rfl (pgs_cons (pg_name (i := 6) scLacking.nd rfl (Or.inl rfl)) (pgs_cons (pg_name (i := 7) scLacking.nd rfl (Or.inl rfl)) pgs_nil)))) (fun _ _ _ _ _ => pts_one (pt_cmpR op_eq (pv 7) (pv 3) (nomark _))) (fun _ _ _ _ _ => (by exact (pv 7)))) pa_nil)))
      (pss_one (ps_if (pt_cmpR op_eq (pv 3) (pv 4) (nomark _)) (pss_one (ps_set (i := 2) scLacking.nd rfl (Or.inl rfl) (pe_op op_cat (pv 2) (pe_op op_rep (pe_lst (pa_cons (pv 3) pa_nil)) (pe_op op_mod (pv 5) pe_int))))) (pss_one (ps_set (i := 2) scLacking.nd rfl (Or.inl rfl) (pe_op op_cat (pv 2) (pe_op op_rep (pe_lst (pa_cons (pv 4) pa_nil)) (pe_callB (call_max2 rfl) (by rfl) mMx (by decide +kernel) (pa_cons pe_int (pa_cons (pe_op op_sub (pv 5) (pe_callB call_len_seq (by rfl) M.len PySem.boot_len (pa_cons (pe_lc (own := [("_law_place", 6), ("_law_one_here", 7)]) (g := gTup K 2 (gCons (gName 6) (gCons (gName 7) gNil))) (tt := tTest (tOp rEq (tVar 7) (tVar 4))) (te := (tVar 7)) rfl scLacking.nd (pi_list (pv 1)) (blkOk_by (N := laN) (sc := defScope sLacking) (by decide +kernel)) (fun _ _ _ _ _ => (pg_tup rfl (pgs_cons (pg_name (i := 6) scLacking.nd rfl (Or.inl rfl)) (pgs_cons (pg_name (i := 7) scLacking.nd rfl (Or.inl rfl)) pgs_nil)))) (fun _ _ _ _ _ => pts_one (pt_cmpR op_eq (pv 7) (pv 4) (nomark _))) (fun _ _ _ _ _ => (by exact (pv 7)))) pa_nil))) pa_nil)))))))))))
      (pss_one (ps_ret (pv 2))))), ?_⟩
    have lev := ev.len
    obtain ⟨zs, ez, lz, rz⟩ := dt_list ds
    have lzs : zs.length = rows.length := by rw [rz.len, List.length_map]
    have lxs : (ES.map (·.2)).length ≤ 60 := by rw [List.length_map]; exact l60
    refine ⟨Nat.zero_le _, fun D nD => ?_⟩
    refine ⟨_, rfl, ls, rfl, ⟨_, SqL.of (same_new nD _ _ ez)⟩, for_it (walk_list (K := K) (a := ls) (xs := zs)) (fun j σ H' => ∃ D y3 y4 y5 y6 y7, σ = [some (.ref ls), some (.ref q), some (.ref D), y3, y4, y5, y6, y7] ∧ Same H H' ∧ H D = none ∧ H' D = some (.lst ((wantL (rows.take j) (ES.map (·.2))).map V.str)))
      ⟨D, none, none, none, none, none, rfl, same_new nD, nD, upd_same⟩ (fun j σ H' _ h => ?_) ?_ ?_⟩
    · obtain ⟨D, y3, y4, y5, y6, y7, rfl, s2, _⟩ := h
      exact SqL.of (s2 _ _ ez)
    · rintro j x σ H20 H2 hj ⟨D, y3, y4, y5, y6, y7, rfl, s2, nD, hD2⟩ ⟨rfl, hx⟩
      obtain ⟨rr, hrr⟩ : ∃ rr, rows[j]? = some rr := ⟨rows[j], List.getElem?_eq_getElem (by omega)⟩
      obtain ⟨q2, rfl, tq2⟩ := row_at rz hx hrr
      refine ⟨q2, _, rfl, (tq2.same s2).sq, rfl, _, _, rfl, _, _, rfl, rfl, ?_⟩
      have lw := wantL_len lxs (rows.take j)
      rw [List.length_take] at lw
      have ew : wantL (rows.take (j + 1)) (ES.map (·.2)) = wantL (rows.take j) (ES.map (·.2)) ++ wantR (ES.map (·.2)) rr := by
        rw [take_snoc hrr, wantL_snoc]
      -- how many of the sort
      refine ⟨_, rfl, q, rfl, ⟨_, SqL.of (s2 _ _ hq)⟩, fun D2 nD2 => ?_⟩
      refine lc_it (walk_list (K := K) (a := q) (xs := es')) (fun i H' => Same H2 (del H' D2) ∧ H' D2 = some (.lst ((ofS (ES.take i) rr.1).map V.str))) ⟨same_del' nD2, upd_same⟩ (fun i H' _ h => SqL.of (del_sub _ _ (h.1 _ _ (s2 _ _ hq)))) ?_ ?_
      · rintro i x H50 H5 hi ⟨s5, hD5⟩ ⟨rfl, hx5⟩
        obtain ⟨e, he, t, rfl, tq⟩ := paired_at ev hx5
        have s5' := s5.trans (del_sub (H := H5) (p := D2))
        refine ⟨t, _, rfl, ((tq.same s2).same s5').sq, rfl, _, _, rfl, _, _, rfl, rfl, rfl, _, rfl, _, rfl, rfl, _, rfl, ?_⟩
        have eo := ofS_snoc rr.1 (ES.take i) e
        rw [← take_snoc he] at eo
        have lo : (ofS (ES.take i) rr.1).length ≤ 60 := by
          rw [ofS_len]
          refine Nat.le_trans List.count_le_length ?_
          rw [List.length_map, List.length_take]
          omega
        refine ite2 (fun c => ?_) (fun c => ?_)
        · have ce : e.2 = rr.1 := by
            by_cases z : e.2 = rr.1
            · exact z
            · exfalso
              simp [z] at c
          refine ⟨_, rfl, _, hD5, small1000 (by rw [List.length_map]; omega), s5.trans del_upd_same, ?_⟩
          rw [upd_same, eo, if_pos ce, List.map_append]
          rfl
        · have ce : ¬ e.2 = rr.1 := fun z => by
            apply c
            simp [z]
          refine ⟨s5, ?_⟩
          rw [hD5, eo, if_neg ce, List.append_nil]
      rintro H5 ⟨s5, hD5⟩
      rw [lev, List.take_of_length_le (Nat.le_refl _)] at hD5
      have s25 := s5.trans (del_sub (H := H5) (p := D2))
      have s05 := s2.trans s25
      refine ⟨D2, _, rfl, .inl (SqL.of hD5), ?_⟩
      rw [List.length_map, ofS_len]
      have c1 : (ES.map (·.2)).count rr.1 ≤ 60 := Nat.le_trans List.count_le_length lxs
      have hD5' := s25 _ _ hD2
      refine ⟨_, rfl, _, rfl, rfl, _, rfl, ite2 (fun c => ?_) (fun c => ?_)⟩
      · have ce : rr.1 = rr.2 := by
          by_cases z : rr.1 = rr.2
          · exact z
          · exfalso
            simp [z] at c
        refine ⟨_, rfl, _, rfl, by show 1 ≤ sizeLine; decide, fun e0 ne0 => ?_⟩
        have t6 := same_new (o := .lst [.str rr.1]) ne0
        have he0 : upd H5 e0 (.lst [.str rr.1]) e0 = some (.lst [.str rr.1]) := upd_same
        generalize upd H5 e0 (.lst [.str rr.1]) = H6 at t6 he0 ⊢
        refine ⟨_, rfl, _, _, rfl, rfl, (by show (0 : Int) < 2; decide), ?_⟩
        obtain ⟨b, hb, hb2, hb3⟩ : ∃ b : Nat, ((((ES.map (·.2)).count rr.1 : Nat) : Int) % 2) = (b : Int) ∧ b ≤ 60 ∧ wantR (ES.map (·.2)) rr = List.replicate b rr.1 := ⟨(ES.map (·.2)).count rr.1 % 2, by omega, by omega, by unfold wantR; rw [if_pos ce]⟩
        dsimp only
        rw [hb]
        refine ⟨e0, _, _, rfl, rfl, he0, by omega, by omega, by rw [sizeLine_eq]; show 1 * ((b : Int)).toNat ≤ _; omega, fun u nu => ?_⟩
        have eb : ((b : Int)).toNat = b := Int.toNat_natCast b
        rw [eb, rep_flat]
        have t7 := same_new (o := .lst ((List.replicate b rr.1).map V.str)) nu
        have hu : upd H6 u (.lst ((List.replicate b rr.1).map V.str)) u = some (.lst ((List.replicate b rr.1).map V.str)) := upd_same
        have hD7 := t7 _ _ (t6 _ _ hD5')
        have s7 := (s05.trans t6).trans t7
        generalize upd H6 u (.lst ((List.replicate b rr.1).map V.str)) = H7 at t7 hu hD7 s7 ⊢
        refine ⟨D, u, _, _, rfl, rfl, hD7, hu, by rw [List.length_map, List.length_map, List.length_replicate, sizeLine_eq]; omega, fun p np => ?_⟩
        refine ⟨p, _, _, _, _, _, rfl, s7.trans (same_new np), s7.free np, ?_⟩
        rw [upd_same, ew, hb3, List.map_append]
      · have ce : ¬ rr.1 = rr.2 := fun z => by
          apply c
          simp [z]
        refine ⟨_, rfl, _, rfl, by show 1 ≤ sizeLine; decide, fun e0 ne0 => ?_⟩
        have t6 := same_new (o := .lst [.str rr.2]) ne0
        have he0 : upd H5 e0 (.lst [.str rr.2]) e0 = some (.lst [.str rr.2]) := upd_same
        have s06 := s05.trans t6
        have hD6 := t6 _ _ hD5'
        generalize upd H5 e0 (.lst [.str rr.2]) = H6 at t6 he0 s06 hD6 ⊢
        -- how many of the partner
        refine ⟨_, rfl, _, rfl, q, rfl, ⟨_, SqL.of (s06 _ _ hq)⟩, fun D3 nD3 => ?_⟩
        refine lc_it (walk_list (K := K) (a := q) (xs := es')) (fun i H' => Same H6 (del H' D3) ∧ H' D3 = some (.lst ((ofS (ES.take i) rr.2).map V.str))) ⟨same_del' nD3, upd_same⟩ (fun i H' _ h => SqL.of (del_sub _ _ (h.1 _ _ (s06 _ _ hq)))) ?_ ?_
        · rintro i x H70 H7 hi ⟨s7, hD7⟩ ⟨rfl, hx5⟩
          obtain ⟨e, he, t, rfl, tq⟩ := paired_at ev hx5
          have s7' := s7.trans (del_sub (H := H7) (p := D3))
          refine ⟨t, _, rfl, ((tq.same s06).same s7').sq, rfl, _, _, rfl, _, _, rfl, rfl, rfl, _, rfl, _, rfl, rfl, _, rfl, ?_⟩
          have eo := ofS_snoc rr.2 (ES.take i) e
          rw [← take_snoc he] at eo
          have lo : (ofS (ES.take i) rr.2).length ≤ 60 := by
            rw [ofS_len]
            refine Nat.le_trans List.count_le_length ?_
            rw [List.length_map, List.length_take]
            omega
          refine ite2 (fun c => ?_) (fun c => ?_)
          · have ce : e.2 = rr.2 := by
              by_cases z : e.2 = rr.2
              · exact z
              · exfalso
                simp [z] at c
            refine ⟨_, rfl, _, hD7, small1000 (by rw [List.length_map]; omega), s7.trans del_upd_same, ?_⟩
            rw [upd_same, eo, if_pos ce, List.map_append]
            rfl
          · have ce : ¬ e.2 = rr.2 := fun z => by
              apply c
              simp [z]
            refine ⟨s7, ?_⟩
            rw [hD7, eo, if_neg ce, List.append_nil]
        rintro H7 ⟨s7, hD7⟩
        rw [lev, List.take_of_length_le (Nat.le_refl _)] at hD7
        have s67 := s7.trans (del_sub (H := H7) (p := D3))
        refine ⟨D3, _, rfl, .inl (SqL.of hD7), ?_⟩
        rw [List.length_map, ofS_len]
        have c2 : (ES.map (·.2)).count rr.2 ≤ 60 := Nat.le_trans List.count_le_length lxs
        refine ⟨_, _, rfl, rfl, 0, _, rfl, ?_⟩
        obtain ⟨b, hb, hb2, hb3⟩ : ∃ b : Nat, (if (((ES.map (·.2)).count rr.1 : Nat) : Int) - (((ES.map (·.2)).count rr.2 : Nat) : Int) > 0 then (((ES.map (·.2)).count rr.1 : Nat) : Int) - (((ES.map (·.2)).count rr.2 : Nat) : Int) else 0) = (b : Int) ∧ b ≤ 60 ∧ wantR (ES.map (·.2)) rr = List.replicate b rr.2 := ⟨(ES.map (·.2)).count rr.1 - (ES.map (·.2)).count rr.2, by split <;> omega, by omega, by unfold wantR; rw [if_neg ce]⟩
        rw [hb]
        refine ⟨e0, _, _, rfl, rfl, s67 _ _ he0, by omega, by omega, by rw [sizeLine_eq]; show 1 * ((b : Int)).toNat ≤ _; omega, fun u nu => ?_⟩
        have eb : ((b : Int)).toNat = b := Int.toNat_natCast b
        rw [eb, rep_flat]
        have t8 := same_new (o := .lst ((List.replicate b rr.2).map V.str)) nu
        have hu : upd H7 u (.lst ((List.replicate b rr.2).map V.str)) u = some (.lst ((List.replicate b rr.2).map V.str)) := upd_same
        have hD8 := t8 _ _ (s67 _ _ hD6)
        have s8 := (s06.trans s67).trans t8
        generalize upd H7 u (.lst ((List.replicate b rr.2).map V.str)) = H8 at t8 hu hD8 s8 ⊢
        refine ⟨D, u, _, _, rfl, rfl, hD8, hu, by rw [List.length_map, List.length_map, List.length_replicate, sizeLine_eq]; omega, fun p np => ?_⟩
        refine ⟨p, _, _, _, _, _, rfl, s8.trans (same_new np), s8.free np, ?_⟩
        rw [upd_same, ew, hb3, List.map_append]
    · rintro σ H2 ⟨D, y3, y4, y5, y6, y7, rfl, s2, nD, hD2⟩
      rw [lzs, List.take_of_length_le (Nat.le_refl _)] at hD2
      exact ⟨_, rfl, k D H2 nD s2 hD2⟩
end
end Toy
set_option Elab.async false
set_option linter.all false
set_option maxRecDepth 100000
set_option maxHeartbeats 4000000
namespace Toy
open PySem PySem.Spec PyProof.Rows L2
theorem DtAll.erase {H : Hp} : ∀ {vs : List V} {ds : List PyData} (j : Nat), DtAll H vs ds → DtAll H (vs.eraseIdx j) (ds.eraseIdx j)
  | _, _, _, .nil => .nil
  | _, _, 0, .cons _ t => t
  | _, _, j + 1, .cons h t => .cons h (DtAll.erase j t)
theorem erase_perm2 {α : Type} : ∀ {xs : List α} {j : Nat} {b : α}, xs[j]? = some b → xs.Perm (b :: xs.eraseIdx j)
  | [], j, b, h => by simp at h
  | x :: xs, 0, b, h => by
    have e : x = b := Option.some.inj h
    subst e
    exact List.Perm.refl _
  | x :: xs, j + 1, b, h => by
    have ih := erase_perm2 (xs := xs) (j := j) (b := b) h
    exact (List.Perm.cons x ih).trans (List.Perm.swap b x _)
def spMixed : Sp := fun vs H Q _ => ∃ (p q : Addr) (n : Nat) (xs : List V) (ds : List PyData), vs = [.ref p, .ref q] ∧ SrcAt H p n ∧ n ≤ 50000 ∧ H q = some (.lst xs) ∧ q ≠ p ∧ DtAll (del H p) xs ds ∧ (∀ d ∈ ds, Low 18 d) ∧ xs.length ≤ 60 ∧
  ∀ (u : Addr) (ys : List V) (H' : Hp), H u = none → ys.Perm xs → H' u = some (.lst ys) → SrcAt H' p (n + xs.length) → Off p H H' → Q (.ref u) H'
section
variable {P : Program} {w : World} {K : PySem.W.Frag} {mg : Str → Option Value} {base : Heap}
abbrev miN : List Str := ["_law_source", "_law_some", "_law_left", "_law_found"]
theorem scMixed : FnScope miN ["_law_source", "_law_some"] (defScope sMixed) := ⟨rfl, rfl, rfl, by decide +kernel, rfl, by decide +kernel, by decide +kernel⟩
theorem ok_mixed {f fN : Addr} {fd fdN : FuncData} (F : Fun K "_law_mixed" "_law_mixed" sMixed f fd) (M : Mods mg)
    (GN : FnOk P w K mg base CX0 1 fN fdN ["_law_source", "_law_many"] spNext) (kN : PySem.W.keepIn K (.ref fN) = true) (bN : Binds K fdN ["_law_source", "_law_many"] []) (gN : mg "_law_next" = some (.ref fN)) :
    FnOk P w K mg base CX0 2 f fd ["_law_source", "_law_some"] spMixed := by
  refine F.ok scMixed (fun vs H Q E h => ?_) (fun cdv A outer s H vs Q E hr h => ?_)
  · obtain ⟨p, q, n, xs, ds, rfl, _⟩ := h
    rfl
  · obtain ⟨p, q, n, xs, ds, rfl, hp, hn, hq, nqp, dx, lo, l60, k⟩ := h
    refine ⟨_, (pss_cons (ps_set (i := 2) scMixed.nd rfl (Or.inl rfl) (pe_callTy call_list_of (by rfl) M.lst_ (by decide +kernel) (pa_cons (pv 1) pa_nil)))
      (pss_cons (ps_set (i := 3) scMixed.nd rfl (Or.inl rfl) (pe_lst pa_nil))
      (pss_cons (ps_while PassesOwn.never (pt_cmpR (op_neD hr.units) (pv 2) (pe_lst pa_nil) (nomark _)) (pss_one (ps_expr (pe_bm PySem.F.plainAttrs_list PySem.F.slot_list_append PySem.F.type_list_append mt_append (pv 3) (pa_cons (pe_bm PySem.F.plainAttrs_list PySem.F.slot_list_pop PySem.F.type_list_pop mt_popAt (pv 2) (pa_cons (pe_call GN hr (by rfl) gN kN bN .nil pass0 (pa_cons (pv 0) (pa_cons (pe_callB call_len_seq (by rfl) M.len PySem.boot_len (pa_cons (pv 2) pa_nil)) pa_nil))) pa_nil)) pa_nil)))))
      (pss_one (ps_ret (pv 3)))))), ?_⟩
    refine ⟨_, rfl, q, xs, rfl, .inl (SqL.of hq), fun L nL => ?_⟩
    have nLp := hp.ne nL
    have oL : Off p H (upd H L (.lst xs)) := (Off.refl p H).upd0 nL
    have hL0 : upd H L (.lst xs) L = some (.lst xs) := upd_same
    have hpL : SrcAt (upd H L (.lst xs)) p n := hp.upd nLp
    have dL : DtAll (del (upd H L (.lst xs)) p) xs ds := dx.same (off_same oL)
    have nL0 := nL
    generalize upd H L (.lst xs) = HL at oL hL0 hpL dL ⊢
    refine ⟨Nat.zero_le _, fun D nD => ?_⟩
    have nDp := hpL.ne nD
    have nDH : H D = none := oL.free hpL nD
    have nDL : D ≠ L := (ne_of_none hL0 nD).symm
    let WI : Nat → L2.St → Hp → Prop := fun m σ H' => ∃ (left ys : List V) (es : List PyData), σ = [some (.ref p), some (.ref q), some (.ref L), some (.ref D)] ∧ Off p H H' ∧ SrcAt H' p (n + ys.length) ∧ H' L = some (.lst left) ∧ H' D = some (.lst ys) ∧ (ys ++ left).Perm xs ∧ DtAll (del H p) left es ∧ (∀ d ∈ es, Low 18 d) ∧ left.length = m
    refine ⟨WI, ⟨xs.length, xs, [], ds, rfl, oL.upd0 nDH, hpL.upd nDp, by rw [upd_ne (fun z => nDL z.symm)]; exact hL0, upd_same, List.Perm.refl _, dx, lo, rfl⟩, ?_⟩
    rintro m σ H1 ⟨left, ys, es, rfl, o1, hp1, hL1, hD1, pm, de1, lo1, lm⟩
    have ll := pm.length_eq
    rw [List.length_append] at ll
    refine ⟨_, rfl, Nat.zero_le _, fun e0 ne0 => ?_⟩
    have t1 := same_new (o := .lst []) ne0
    have de : Dt (upd H1 e0 (.lst [])) (.ref e0) (.list []) := .lst upd_same (Nat.zero_le _) .nil
    have o2 : Off p H (upd H1 e0 (.lst [])) := o1.upd0 (o1.free hp1 ne0)
    have hp2 := hp1.same t1
    have hL2 := t1 _ _ hL1
    have hD2 := t1 _ _ hD1
    generalize upd H1 e0 (.lst []) = H2 at t1 de o2 hp2 hL2 hD2 ⊢
    have dl2 : DtAll H2 left es := (de1.same (off_same o2)).same del_sub
    have dL2 : Dt H2 (.ref L) (.list es) := .lst hL2 (by omega) dl2
    have lel := dl2.len
    refine neD_gen dL2 de (low_lst lo1) (low_strs []) ⟨_, rfl, ?_⟩
    cases left with
    | nil =>
      cases dl2
      show tRet (tVar 3) _ _ _
      rw [List.append_nil] at pm
      exact ⟨_, rfl, k D ys H2 nDH pm hD2 (hp2.mono (by rw [pm.length_eq]; omega)) o2⟩
    | cons a rest =>
      cases es with
      | nil => cases dl2
      | cons d0 es =>
        refine ⟨fun σ H' => ∃ m', m' < m ∧ WI m' σ H', fun σ' H' q => q, ?_⟩
        refine ⟨_, rfl, .inl ⟨rfl, _, SqL.of hD2⟩, _, rfl, .inl ⟨rfl, _, SqL.of hL2⟩, _, rfl, _, rfl, L, _, rfl, .inl (SqL.of hL2), p, _, _, rfl, hp2, by rw [List.length_cons]; omega, by rw [List.length_cons] at ll ⊢; omega, by omega, fun r H3 r0 r1 hp3 o3 => ?_⟩
        obtain ⟨r, rfl⟩ := Int.eq_ofNat_of_zero_le r0
        have hr3 : r < (a :: rest).length := by omega
        have hL3 := o3 _ _ hL2 nLp
        have hD3 := o3 _ _ hD2 nDp
        obtain ⟨b, hb⟩ : ∃ b, (a :: rest)[r]? = some b := ⟨_, List.getElem?_eq_getElem hr3⟩
        refine ⟨L, _, _, r, b, rfl, rfl, hL3, by omega, by rw [List.length_cons] at ll hr3; omega, (by have e := PySem.StrLaws.seqIndex_nonneg (i := (r : Int)) (n := (a :: rest).length) (by omega) (by omega); rw [Int.toNat_natCast] at e; exact e), hb, ?_⟩
        have o4 : Off p H (upd H3 L (.lst ((a :: rest).eraseIdx r))) := (o2.trans o3).upd0 nL0
        have hL4 : upd H3 L (.lst ((a :: rest).eraseIdx r)) L = some (.lst ((a :: rest).eraseIdx r)) := upd_same
        have hp4 : SrcAt (upd H3 L (.lst ((a :: rest).eraseIdx r))) p (n + ys.length + 1) := hp3.upd nLp
        have hD4 : upd H3 L (.lst ((a :: rest).eraseIdx r)) D = some (.lst ys) := by rw [upd_ne nDL]; exact hD3
        generalize upd H3 L (.lst ((a :: rest).eraseIdx r)) = H4 at o4 hL4 hp4 hD4 ⊢
        refine ⟨D, ys, b, rfl, rfl, hD4, by rw [sizeLine_eq]; omega, ?_⟩
        refine ⟨((a :: rest).eraseIdx r).length, ?_, (a :: rest).eraseIdx r, ys ++ [b], (d0 :: es).eraseIdx r, rfl, o4.upd0 nDH, (hp4.upd nDp).mono (by rw [List.length_append, List.length_singleton]; omega), by rw [upd_ne (fun z => nDL z.symm)]; exact hL4, upd_same, ?_, de1.erase r, fun d hd => lo1 d (List.mem_of_mem_eraseIdx hd), rfl⟩
        · rw [List.length_eraseIdx_of_lt hr3, ← lm]
          rw [List.length_cons] at hr3 ⊢
          omega
        · refine List.Perm.trans ?_ pm
          rw [List.append_assoc]
          exact List.Perm.append_left _ (erase_perm2 hb).symm
end
end Toy
set_option Elab.async false
set_option linter.all false
set_option maxRecDepth 100000
set_option maxHeartbeats 4000000
namespace Toy
open PySem PySem.Spec PyProof.Rows L2
theorem ends_at {H : Hp} {ws : List V} {es : List End} {i : Nat} {e : End} (h : EndsAt H ws es) (he : es[i]? = some e) : ∃ t, ws[i]? = some (.ref t) ∧ TupAt H t [.int (e.1 : Nat), .str e.2] := by
  have l := h.len
  have li : i < ws.length := by
    have := (List.getElem?_eq_some_iff.mp he).1
    omega
  obtain ⟨e', he', t, ev, tq⟩ := paired_at (show Paired (EndP H) ws es from h) (List.getElem?_eq_getElem li)
  rw [he] at he'
  cases he'
  exact ⟨t, by rw [List.getElem?_eq_getElem li, ev], tq⟩
/-! ### pairs of ends -/
abbrev EPair := End × End
def flatE (P : List EPair) : List End := P.flatMap fun p => [p.1, p.2]
theorem flatE_app (P Q : List EPair) : flatE (P ++ Q) = flatE P ++ flatE Q := by
  unfold flatE
  rw [List.flatMap_append]
theorem flatE_len : ∀ P : List EPair, (flatE P).length = 2 * P.length
  | [] => rfl
  | p :: P => by
    show (p.1 :: p.2 :: flatE P).length = _
    rw [List.length_cons, List.length_cons, List.length_cons, flatE_len P]
    omega
def ofE (ES : List End) (s : Str) : List End := ES.filter fun e => decide (e.2 = s)
theorem ofE_snoc (s : Str) (ES : List End) (e : End) : ofE (ES ++ [e]) s = ofE ES s ++ if e.2 = s then [e] else [] := by
  unfold ofE
  rw [List.filter_append]
  by_cases c : e.2 = s
  · rw [if_pos c, List.filter_cons_of_pos (by simp [c])]
    rfl
  · rw [if_neg c, List.filter_cons_of_neg (by simp [c])]
    rfl
theorem ofE_len (s : Str) (ES : List End) : (ofE ES s).length = (ES.map (·.2)).count s := by
  rw [← ofS_len]
  unfold ofS ofE
  rw [List.length_map]
theorem ofE_mem {ES : List End} {s : Str} {e : End} (h : e ∈ ofE ES s) : e ∈ ES ∧ e.2 = s := by
  unfold ofE at h
  obtain ⟨a, b⟩ := List.mem_filter.mp h
  exact ⟨a, by simpa using b⟩
theorem ofE_count (ES : List End) (s : Str) (e : End) : (ofE ES s).count e = if e.2 = s then ES.count e else 0 := by
  by_cases c : e.2 = s
  · rw [if_pos c]
    unfold ofE
    exact List.count_filter (by simp [c])
  · rw [if_neg c]
    exact List.count_eq_zero.mpr fun z => c (ofE_mem z).2
def contR (ES : List End) (r : Str × Str) : List End := if r.1 = r.2 then ofE ES r.1 else if ltS r.1 r.2 = true then ofE ES r.1 ++ ofE ES r.2 else []
def contL (rows : Rows2) (ES : List End) : List End := rows.flatMap (contR ES)
theorem contL_snoc (rows : Rows2) (r : Str × Str) (ES : List End) : contL (rows ++ [r]) ES = contL rows ES ++ contR ES r := by
  unfold contL
  rw [List.flatMap_append]
  show _ ++ (contR ES r ++ []) = _
  rw [List.append_nil]
theorem contR_zero {ES : List End} {r : Str × Str} {e : End} (h : (r.1 = r.2 ∨ ltS r.1 r.2 = true) → r.1 ≠ e.2 ∧ r.2 ≠ e.2) : (contR ES r).count e = 0 := by
  unfold contR
  by_cases c : r.1 = r.2
  · rw [if_pos c, ofE_count, if_neg (fun z => (h (.inl c)).1 z.symm)]
  · rw [if_neg c]
    by_cases l : ltS r.1 r.2 = true
    · rw [if_pos l, List.count_append, ofE_count, ofE_count, if_neg (fun z => (h (.inr l)).1 z.symm), if_neg (fun z => (h (.inr l)).2 z.symm)]
    · rw [if_neg l]
      rfl
theorem contR_one {ES : List End} {r : Str × Str} {e : End} (h : r.1 = r.2 ∨ ltS r.1 r.2 = true) (he : r.1 = e.2 ∨ r.2 = e.2) : (contR ES r).count e = ES.count e := by
  unfold contR
  by_cases c : r.1 = r.2
  · have e1 : e.2 = r.1 := he.elim (fun z => z.symm) fun z => by rw [c]; exact z.symm
    rw [if_pos c, ofE_count, if_pos e1]
  · have l : ltS r.1 r.2 = true := h.resolve_left c
    rw [if_neg c, if_pos l, List.count_append, ofE_count, ofE_count]
    rcases he with z | z
    · rw [if_pos z.symm, if_neg (fun y => c (by rw [z, y]))]
      omega
    · rw [if_neg (fun y => c (by rw [z, y])), if_pos z.symm]
      omega
theorem contL_zero {ES : List End} {e : End} : ∀ l : Rows2, (∀ q ∈ l, (contR ES q).count e = 0) → (contL l ES).count e = 0
  | [], _ => rfl
  | q :: l, h => by
    show (contR ES q ++ contL l ES).count e = 0
    rw [List.count_append, h q List.mem_cons_self, contL_zero l fun x hx => h x (List.mem_cons_of_mem _ hx)]
theorem contL_one {ES : List End} {e : End} {r : Str × Str} : ∀ l : Rows2, (l.map (·.1)).Nodup → r ∈ l → (contR ES r).count e = ES.count e → (∀ q ∈ l, q.1 ≠ r.1 → (contR ES q).count e = 0) → (contL l ES).count e = ES.count e
  | [], _, h, _, _ => nomatch h
  | q :: l, nd, hr, h1, h0 => by
    rw [List.map_cons, List.nodup_cons] at nd
    show (contR ES q ++ contL l ES).count e = _
    rw [List.count_append]
    by_cases c : q.1 = r.1
    · have z0 : (contL l ES).count e = 0 := contL_zero l fun x hx => h0 x (List.mem_cons_of_mem _ hx) fun z => nd.1 (by rw [c, ← z]; exact List.mem_map_of_mem (f := fun k : Str × Str => k.1) hx)
      have er : q = r := by
        rcases List.mem_cons.mp hr with z | z
        · exact z.symm
        · exact absurd (by rw [c]; exact List.mem_map_of_mem (f := fun k : Str × Str => k.1) z) nd.1
      rw [z0, er, h1]
      rfl
    · have hr2 : r ∈ l := by
        rcases List.mem_cons.mp hr with z | z
        · exact absurd (by rw [z]) c
        · exact z
      rw [h0 q List.mem_cons_self c, contL_one l nd.2 hr2 h1 fun x hx => h0 x (List.mem_cons_of_mem _ hx)]
      omega
theorem cont_all {rows : Rows2} {ES : List End} (m : Mut rows) (hES : ∀ e ∈ ES, e.2 ∈ rows.map (·.1)) : (contL rows ES).Perm ES := by
  rw [List.perm_iff_count]
  intro e
  by_cases h : e ∈ ES
  · obtain ⟨q, hq, eq⟩ := List.mem_map.mp (hES e h)
    have hx : (e.2, q.2) ∈ rows := by rw [← eq]; exact hq
    obtain ⟨r, hr, er, lr⟩ := m.row hx
    refine contL_one rows m.nd hr (contR_one lr ?_) fun x hx2 ne => contR_zero fun lx => ?_
    · rcases er with z | z
      · exact .inl (by rw [z])
      · exact .inr (by rw [z])
    · have o := m.other hx hr er lr hx2 ne lx
      exact ⟨o.1, o.2.2.1⟩
  · rw [List.count_eq_zero.mpr h]
    refine contL_zero rows fun x _ => ?_
    refine Nat.le_zero.mp ?_
    have z : ∀ s, (ofE ES s).count e = 0 := fun s => List.count_eq_zero.mpr fun y => h (ofE_mem y).1
    unfold contR
    split
    · rw [z]
      exact Nat.le_refl _
    · split
      · rw [List.count_append, z, z]
        exact Nat.le_refl _
      · exact Nat.le_refl _
/-- the lesser and the greater end of a pair -/
def mnE (p : EPair) : End := if PySem.W.dataLt (endT p.2) (endT p.1) = true then p.2 else p.1
def mxE (p : EPair) : End := if PySem.W.dataLt (endT p.1) (endT p.2) = true then p.2 else p.1
theorem mm_cases (p : EPair) : (mnE p = p.1 ∧ mxE p = p.2 ∧ endLe p.1 p.2 = true) ∨ (mnE p = p.2 ∧ mxE p = p.1 ∧ endLe p.2 p.1 = true) := by
  unfold mnE mxE endLe
  by_cases h1 : PySem.W.dataLt (endT p.2) (endT p.1) = true
  · by_cases h2 : PySem.W.dataLt (endT p.1) (endT p.2) = true
    · exfalso
      have r1 : ¬ endR p.1 p.2 := fun z => by
        have q := (endLe_iff p.1 p.2).mpr z
        unfold endLe at q
        rw [h1] at q
        cases q
      have r2 : ¬ endR p.2 p.1 := fun z => by
        have q := (endLe_iff p.2 p.1).mpr z
        unfold endLe at q
        rw [h2] at q
        cases q
      exact (endR_total p.1 p.2).elim r1 r2
    · refine .inr ⟨if_pos h1, if_neg h2, ?_⟩
      rw [Bool.not_eq_true] at h2
      rw [h2]
      rfl
  · rw [Bool.not_eq_true] at h1
    by_cases h2 : PySem.W.dataLt (endT p.1) (endT p.2) = true
    · refine .inl ⟨if_neg (by rw [h1]; decide), if_pos h2, ?_⟩
      rw [h1]
      rfl
    · rw [Bool.not_eq_true] at h2
      have r1 : endR p.1 p.2 := (endLe_iff _ _).mp (by unfold endLe; rw [h1]; rfl)
      have r2 : endR p.2 p.1 := (endLe_iff _ _).mp (by unfold endLe; rw [h2]; rfl)
      have e := endR_anti r1 r2
      refine .inl ⟨if_neg (by rw [h1]; decide), ?_, ?_⟩
      · rw [if_neg (by rw [h2]; decide), e]
      · rw [h1]
        rfl
def jrow (p : EPair) : JRow := (mnE p, mxE p)
theorem jrow_split : ∀ P : List EPair, ((P.map jrow).map (·.1) ++ (P.map jrow).map (·.2)).Perm (flatE P)
  | [] => List.Perm.refl _
  | p :: P => by
    have q := jrow_split P
    show (mnE p :: ((P.map jrow).map (·.1) ++ mxE p :: (P.map jrow).map (·.2))).Perm (p.1 :: p.2 :: flatE P)
    have h : (mnE p :: mxE p :: flatE P).Perm (p.1 :: p.2 :: flatE P) := by
      rcases mm_cases p with ⟨a, b, _⟩ | ⟨a, b, _⟩
      · rw [a, b]
      · rw [a, b]
        exact List.Perm.swap _ _ _
    exact (List.Perm.cons _ (List.perm_middle.trans (List.Perm.cons _ q))).trans h
theorem jrow_good {rows : Rows2} (m : Mut rows) {p : EPair} (h : (p.1.2, p.2.2) ∈ rows) (n1 : nameS p.1.2 = true) (n2 : nameS p.2.2 = true) : GoodJ rows (jrow p) := by
  have h2 := m.mt _ h
  rcases mm_cases p with ⟨a, b, c⟩ | ⟨a, b, c⟩
  · refine ⟨?_, ?_, ?_, ?_⟩ <;> (show _) <;> unfold jrow <;> rw [a] <;> try rw [b]
    · exact h
    · exact c
    · exact n1
    · exact n2
  · refine ⟨?_, ?_, ?_, ?_⟩ <;> (show _) <;> unfold jrow <;> rw [a] <;> try rw [b]
    · exact h2
    · exact c
    · exact n2
    · exact n1
/-! ### pairs taken from lists by number -/
def endN (es : List End) (i : Nat) : End := (es[i]?).getD (0, "")
theorem endN_of {es : List End} {i : Nat} (h : i < es.length) : es[i]? = some (endN es i) := by
  unfold endN
  rw [List.getElem?_eq_getElem h]
  rfl
def twos (G : List End) (m : Nat) : List EPair := (List.range m).map fun k => (endN G (2 * k), endN G (2 * k + 1))
theorem twos_succ (G : List End) (m : Nat) : twos G (m + 1) = twos G m ++ [(endN G (2 * m), endN G (2 * m + 1))] := by
  unfold twos
  rw [List.range_succ, List.map_append]
  rfl
theorem twos_flat (G : List End) : ∀ m, 2 * m ≤ G.length → flatE (twos G m) = G.take (2 * m)
  | 0, _ => rfl
  | m + 1, h => by
    rw [twos_succ, flatE_app, twos_flat G m (by omega)]
    have e1 := endN_of (es := G) (i := 2 * m) (by omega)
    have e2 := endN_of (es := G) (i := 2 * m + 1) (by omega)
    rw [show 2 * (m + 1) = 2 * m + 1 + 1 by omega, take_snoc e2, take_snoc e1, List.append_assoc]
    rfl
def across (G F : List End) (m : Nat) : List EPair := (List.range m).map fun k => (endN G k, endN F k)
theorem across_succ (G F : List End) (m : Nat) : across G F (m + 1) = across G F m ++ [(endN G m, endN F m)] := by
  unfold across
  rw [List.range_succ, List.map_append]
  rfl
theorem across_flat (G F : List End) : ∀ m, m ≤ G.length → m ≤ F.length → (flatE (across G F m)).Perm (G.take m ++ F.take m)
  | 0, _, _ => List.Perm.refl _
  | m + 1, h1, h2 => by
    rw [across_succ, flatE_app, take_snoc (endN_of (es := G) (i := m) (by omega)), take_snoc (endN_of (es := F) (i := m) (by omega))]
    have ih := across_flat G F m (by omega) (by omega)
    show (flatE (across G F m) ++ [endN G m, endN F m]).Perm _
    refine (List.Perm.append_right _ ih).trans ?_
    rw [List.append_assoc, List.append_assoc]
    refine List.Perm.append_left _ ?_
    have q : (F.take m ++ ([endN G m] ++ [endN F m])).Perm ([endN G m] ++ (F.take m ++ [endN F m])) := by
      rw [← List.append_assoc, ← List.append_assoc]
      exact List.Perm.append_right _ List.perm_append_comm
    exact q
/-! ### in the heap -/
def PairE (H : Hp) (v : V) (p : EPair) : Prop := ∃ t t1 t2, v = .ref t ∧ TupAt H t [.ref t1, .ref t2] ∧ TupAt H t1 [.int (p.1.1 : Nat), .str p.1.2] ∧ TupAt H t2 [.int (p.2.1 : Nat), .str p.2.2]
def PairsE (H : Hp) (vs : List V) (P : List EPair) : Prop := Paired (PairE H) vs P
theorem PairsE.same {H H' : Hp} (s : Same H H') {vs : List V} {P : List EPair} (h : PairsE H vs P) : PairsE H' vs P := L2.Paired.mapP h fun _ _ ⟨t, t1, t2, e, a, b, c⟩ => ⟨t, t1, t2, e, a.same s, b.same s, c.same s⟩
theorem PairsE.len {H : Hp} {vs : List V} {P : List EPair} (h : PairsE H vs P) : vs.length = P.length := (show Paired (PairE H) vs P from h).length
theorem PairsE.app {H : Hp} : ∀ {vs ws : List V} {es fs : List EPair}, PairsE H vs es → PairsE H ws fs → PairsE H (vs ++ ws) (es ++ fs)
  | _, _, _, _, .nil, h => h
  | _, _, _, _, .cons a t, h => .cons a (PairsE.app t h)
theorem tup_offL {l t : Addr} {H H' : Hp} {xs ys : List V} (h : TupAt H t xs) (o : Off l H H') (e : H l = some (.lst ys)) : TupAt H' t xs := h.off o fun z => by
  subst z
  rcases h.rd with q | ⟨u, q⟩ <;> (rw [e] at q; cases q)
theorem PairsE.offL {l : Addr} {H H' : Hp} {vs ys : List V} {P : List EPair} (h : PairsE H vs P) (o : Off l H H') (e : H l = some (.lst ys)) : PairsE H' vs P := L2.Paired.mapP h fun _ _ ⟨t, t1, t2, e1, a, b, c⟩ => ⟨t, t1, t2, e1, tup_offL a o e, tup_offL b o e, tup_offL c o e⟩
theorem EndsAt.offL {l : Addr} {H H' : Hp} {vs ys : List V} {js : List End} (h : EndsAt H vs js) (o : Off l H H') (e : H l = some (.lst ys)) : EndsAt H' vs js := L2.Paired.mapP h fun _ _ ⟨q, e1, t⟩ => ⟨q, e1, tup_offL t o e⟩
theorem EndsAt.del {l : Addr} {H : Hp} {vs ys : List V} {js : List End} (h : EndsAt H vs js) (e : H l = some (.lst ys)) : EndsAt (del H l) vs js := L2.Paired.mapP h fun _ _ ⟨q, e1, t⟩ => ⟨q, e1, by
  have nq : q ≠ l := fun z => by
    subst z
    rcases t.rd with r | ⟨u, r⟩ <;> (rw [e] at r; cases r)
  exact ⟨t.rd.elim (fun r => .inl (by rw [del_ne nq]; exact r)) fun ⟨u, r⟩ => .inr ⟨u, by rw [del_ne nq]; exact r⟩⟩⟩
theorem EndsAt.dt2 {H : Hp} : ∀ {vs : List V} {es : List End}, EndsAt H vs es → (∀ e ∈ es, nameS e.2 = true) → DtAll H vs (es.map endT)
  | _, [], .nil, _ => .nil
  | _, e :: es, .cons ⟨t, e1, tq⟩ r, n => by
    subst e1
    exact .cons (dt_endT (n e List.mem_cons_self) tq) (EndsAt.dt2 r fun x hx => n x (List.mem_cons_of_mem _ hx))
theorem paired_perm {α β : Type} {F : α → β → Prop} {ys xs : List α} (p : ys.Perm xs) : ∀ {as : List β}, Paired F xs as → ∃ bs, bs.Perm as ∧ Paired F ys bs := by
  induction p with
  | nil =>
    intro as h
    exact ⟨as, List.Perm.refl _, h⟩
  | cons x _ ih =>
    intro as h
    cases h with
    | cons a t =>
      obtain ⟨bs, p, q⟩ := ih t
      exact ⟨_ :: bs, List.Perm.cons _ p, .cons a q⟩
  | swap x y l =>
    intro as h
    cases h with
    | cons a t =>
      cases t with
      | cons b t => exact ⟨_ :: _ :: _, List.Perm.swap _ _ _, .cons b (.cons a t)⟩
  | trans _ _ ih1 ih2 =>
    intro as h
    obtain ⟨bs, p, q⟩ := ih2 h
    obtain ⟨cs, p2, q2⟩ := ih1 q
    exact ⟨cs, p2.trans p, q2⟩
theorem rows_src {H : Hp} {p a : Addr} {n : Nat} {rows : Rows2} (hp : SrcAt H p n) (h : Dt H (.ref a) (.list (rows.map rowT))) : a ≠ p := by
  obtain ⟨xs, e, l, r⟩ := dt_list h
  refine lst_src hp e fun x q => ?_
  cases rows with
  | nil =>
    cases r
    cases q
  | cons r0 rows =>
    cases r with
    | cons h1 _ =>
      have q2 := Option.some.inj q
      subst q2
      generalize ek : rowT r0 = d at h1
      cases h1
      cases ek
theorem ends_src {H : Hp} {p q : Addr} {n : Nat} {es' : List V} {ES : List End} (hp : SrcAt H p n) (hq : H q = some (.lst es')) (ev : EndsAt H es' ES) : q ≠ p := lst_src hp hq fun x e => by
  obtain ⟨j, _, t, z, _⟩ := paired_at ev e
  cases z
theorem endT_inj {a b : End} (h : endT a = endT b) : a = b := by
  have h2 : PyData.tuple [.int (a.1 : Nat), .str a.2] = .tuple [.int (b.1 : Nat), .str b.2] := h
  injection h2 with h2
  injection h2 with h3 h4
  injection h4 with h4 _
  injection h3 with h3
  injection h4 with h4
  exact Prod.ext (by omega) h4
theorem min_endT (p : EPair) : PySem.W.minD (endT p.1) ([(endT p.2, V.non)].map (·.1)) = endT (mnE p) := by
  show (if PySem.W.dataLt (endT p.2) (endT p.1) = true then endT p.2 else endT p.1) = _
  unfold mnE
  split <;> rfl
theorem max_endT (p : EPair) : PySem.W.maxD (endT p.1) ([(endT p.2, V.non)].map (·.1)) = endT (mxE p) := by
  show (if PySem.W.dataLt (endT p.1) (endT p.2) = true then endT p.2 else endT p.1) = _
  unfold mxE
  split <;> rfl
theorem pick_end {H : Hp} {e f g : End} {t1 t2 : Addr} (h1 : TupAt H t1 [.int (e.1 : Nat), .str e.2]) (h2 : TupAt H t2 [.int (f.1 : Nat), .str f.2]) {y : PyData × V} (hy : y ∈ [(endT e, V.ref t1), (endT f, V.ref t2)]) (ey : y.1 = endT g) : ∃ t, y.2 = .ref t ∧ TupAt H t [.int (g.1 : Nat), .str g.2] := by
  have hy2 : y = (endT e, V.ref t1) ∨ y = (endT f, V.ref t2) := by simpa using hy
  rcases hy2 with rfl | rfl
  · have z := endT_inj ey
    subst z
    exact ⟨t1, rfl, h1⟩
  · have z := endT_inj ey
    subst z
    exact ⟨t2, rfl, h2⟩
theorem alike_two (e f : End) : PySem.W.AlikeAll [endT e, endT f] := by
  refine ⟨alike_ends_all [e, f], fun x hx => ?_⟩
  have hx2 : x = endT e ∨ x = endT f := by simpa using hx
  rcases hx2 with rfl | rfl <;> (intro z; cases z)
end Toy
set_option Elab.async false
set_option linter.all false
set_option maxRecDepth 100000
set_option maxHeartbeats 4000000
namespace Toy
open PySem PySem.Spec PyProof.Rows L2
def spPaired : Sp := fun vs H Q _ => ∃ (p ls q : Addr) (n : Nat) (rows : Rows2) (ES : List End) (es' : List V), vs = [.ref p, .ref ls, .ref q] ∧ SrcAt H p n ∧ n ≤ 40000 ∧ Dt H (.ref ls) (.list (rows.map rowT)) ∧ rows.length ≤ 3 ∧ Mut rows ∧ (∀ r ∈ rows, nameS r.1 = true ∧ nameS r.2 = true) ∧ H q = some (.lst es') ∧ EndsAt H es' ES ∧ ES.length ≤ 60 ∧ (∀ e ∈ ES, e.2 ∈ rows.map (·.1)) ∧ Bal rows (ES.map (·.2)) ∧
  ∀ (u : Addr) (ws : List V) (js : List JRow) (H' : Hp), H' u = some (.lst ws) → JoinsAt H' ws (sortJ js) → (js.map (·.1) ++ js.map (·.2)).Perm ES → (∀ j ∈ js, GoodJ rows j) → SrcAt H' p (n + 180) → Off p H H' → Q (.ref u) H'
section
variable {P : Program} {w : World} {K : PySem.W.Frag} {mg : Str → Option Value} {base : Heap}
abbrev paN : List Str := ["_law_source", "_law_sorts", "_law_ends_here", "_law_pairs", "_law_sort", "_law_partner", "_law_near", "_law_end", "_law_k", "_law_far", "_law_pair"]
theorem scPaired : FnScope paN ["_law_source", "_law_sorts", "_law_ends_here"] (defScope sPaired) := ⟨rfl, rfl, rfl, by decide +kernel, rfl, by decide +kernel, by decide +kernel⟩
theorem ok_paired {f fX : Addr} {fd fdX : FuncData} (F : Fun K "_law_paired" "_law_paired" sPaired f fd) (M : Mods mg)
    (GX : FnOk P w K mg base CX0 2 fX fdX ["_law_source", "_law_some"] spMixed) (kX : PySem.W.keepIn K (.ref fX) = true) (bX : Binds K fdX ["_law_source", "_law_some"] []) (gX : mg "_law_mixed" = some (.ref fX))
    (mR : mg "range" = none) (mMn : mg "min" = none) (mMx : mg "max" = none) :
    FnOk P w K mg base CX0 3 f fd ["_law_source", "_law_sorts", "_law_ends_here"] spPaired := by
  refine F.ok scPaired (fun vs H Q E h => ?_) (fun cdv A outer s H vs Q E hr h => ?_)
  · obtain ⟨p, ls, q, n, rows, ES, es', rfl, _⟩ := h
    rfl
  · obtain ⟨p, ls, q, n, rows, ES, es', rfl, hp, hn, ds, r3, mu, rn, hq, ev, l60, hES, bal, k⟩ := h
    have hr2 : Room 2 (A.deeper (envOfC "_law_paired" (defScope sPaired) s.heap.objs.size f cdv)) := hr.mono (by decide)
    refine ⟨_, (pss_cons (ps_set (i := 3) scPaired.nd rfl (Or.inl rfl) (pe_lst pa_nil))
      (pss_cons (ps_for PassesOwn.never rfl (pi_list (pv 1)) (pg_tup rfl (pgs_cons (pg_name (i := 4) scPaired.nd rfl (Or.inr rfl)) (pgs_cons (pg_name (i := 5) scPaired.nd rfl (Or.inr rfl)) pgs_nil))) (pss_cons (ps_set (i := 6) scPaired.nd rfl (Or.inr rfl) (pe_call GX hr2 (by rfl) gX kX bX .nil pass0 (pa_cons (pv 0) (pa_cons (pe_lc (own := [("_law_end", 7)]) (g := gName 7) (tt := tTest (tOp rEq (tOp (rIxT K) (tVar 7) (tC (.int 1))) (tVar 4))) (te := (tVar 7)) rfl scPaired.nd (pi_list (pv 2)) (blkOk_by (N := paN) (sc := defScope sPaired) (by decide +kernel)) (fun _ _ _ _ _ => pg_name (i := 7) scPaired.nd rfl (Or.inl rfl)) (fun _ _ _ _ _ => pts_one (pt_cmpR op_eq (pe_ix ix_tup (pv 7) pe_int (fun _ _ => rfl)) (pv 4) (nomark _))) (fun _ _ _ _ _ => (by exact (pv 7)))) pa_nil))))
      (pss_one (ps_if (pt_cmpR op_eq (pv 4) (pv 5) (nomark _)) (pss_one (ps_set (i := 3) scPaired.nd rfl (Or.inl rfl) (pe_op op_cat (pv 3) (pe_lc (own := [("_law_k", 8)]) (g := gName 8) (tt := tYes) (te := tTup (tCons (tOp (rIxL K) (tVar 6) (tOp (rI CMul fun i j => .int (i * j)) (tC (.int 2)) (tVar 8))) (tCons (tOp (rIxL K) (tVar 6) (tOp (rI0 fun i j => .int (i + j)) (tOp (rI CMul fun i j => .int (i * j)) (tC (.int 2)) (tVar 8)) (tC (.int 1)))) tNil))) rfl scPaired.nd (pi_range1 (by rfl) mR (pa_cons (pe_op op_fdiv (pe_callB call_len_seq (by rfl) M.len PySem.boot_len (pa_cons (pv 6) pa_nil)) pe_int) pa_nil)) (blkOk_by (N := paN) (sc := defScope sPaired) (by decide +kernel)) (fun _ _ _ _ _ => pg_name (i := 8) scPaired.nd rfl (Or.inl rfl)) (fun _ _ _ _ _ => pts_nil) (fun _ _ _ _ _ => (by exact (pe_tup (pa_cons (pe_ix ix_list (pv 6) (pe_op op_mul pe_int (pv 8)) (fun _ _ => rfl)) (pa_cons (pe_ix ix_list (pv 6) (pe_op op_add (pe_op op_mul pe_int (pv 8)) pe_int) (fun _ _ => rfl)) pa_nil))))))))) (pss_one (ps_if (pt_cmpR (op_ltD hr.units) (pv 4) (pv 5) (nomark _)) (pss_cons (ps_set (i := 9) scPaired.nd rfl (Or.inr rfl) (pe_lc (own := [("_law_end", 7)]) (g := gName 7) (tt := tTest (tOp rEq (tOp (rIxT K) (tVar 7) (tC (.int 1))) (tVar 5))) (te := (tVar 7)) rfl scPaired.nd (pi_list (pv 2)) (blkOk_by (N := paN) (sc := defScope sPaired) (by decide +kernel)) (fun _ _ _ _ _ => pg_name (i := 7) scPaired.nd rfl (Or.inl rfl)) (fun _ _ _ _ _ => pts_one (pt_cmpR op_eq (pe_ix ix_tup (pv 7) pe_int (fun _ _ => rfl)) (pv 5) (nomark _))) (fun _ _ _ _ _ => (by exact (pv 7)))))
      (pss_one (ps_set (i := 3) scPaired.nd rfl (Or.inl rfl) (pe_op op_cat (pv 3) (pe_lc (own := [("_law_k", 8)]) (g := gName 8) (tt := tYes) (te := tTup (tCons (tOp (rIxL K) (tVar 6) (tVar 8)) (tCons (tOp (rIxL K) (tVar 9) (tVar 8)) tNil))) rfl scPaired.nd (pi_range1 (by rfl) mR (pa_cons (pe_callB call_len_seq (by rfl) M.len PySem.boot_len (pa_cons (pv 6) pa_nil)) pa_nil)) (blkOk_by (N := paN) (sc := defScope sPaired) (by decide +kernel)) (fun _ _ _ _ _ => pg_name (i := 8) scPaired.nd rfl (Or.inl rfl)) (fun _ _ _ _ _ => pts_nil) (fun _ _ _ _ _ => (by exact (pe_tup (pa_cons (pe_ix ix_list (pv 6) (pv 8) (fun _ _ => rfl)) (pa_cons (pe_ix ix_list (pv 9) (pv 8) (fun _ _ => rfl)) pa_nil)))))))))) pss_nil))))))
      (pss_one (ps_ret (pe_callB (cr_sortD hr.units) (by rfl) M.srt (by decide +kernel) (pa_cons (pe_lc (own := [("_law_pair", 10)]) (g := gName 10) (tt := tYes) (te := tOp (rCatT K) (tCB (rBestT K PySem.W.minD) (tCons (tVar 10) tNil)) (tCB (rBestT K PySem.W.maxD) (tCons (tVar 10) tNil))) rfl scPaired.nd (pi_list (pv 3)) (blkOk_by (N := paN) (sc := defScope sPaired) (by decide +kernel)) (fun _ _ _ _ _ => pg_name (i := 10) scPaired.nd rfl (Or.inl rfl)) (fun _ _ _ _ _ => pts_nil) (fun _ _ _ _ _ => (by exact (pe_op op_catT (pe_callB (cr_minT rfl hr.units) (by rfl) mMn (by decide +kernel) (pa_cons (pv 10) pa_nil)) (pe_callB (cr_maxT rfl hr.units) (by rfl) mMx (by decide +kernel) (pa_cons (pv 10) pa_nil)))))) pa_nil)))))), ?_⟩
    have nls := rows_src hp ds
    have nq := ends_src hp hq ev
    have lev := ev.len
    obtain ⟨p1, p2, p3, hp0, _⟩ := id hp
    have nam : ∀ e ∈ ES, nameS e.2 = true := fun e he => by
      obtain ⟨r, hr_, er⟩ := List.mem_map.mp (hES e he)
      rw [← er]
      exact (rn r hr_).1
    obtain ⟨zs, ez, lz, rz⟩ := dt_list ds
    have lzs : zs.length = rows.length := by rw [rz.len, List.length_map]
    refine ⟨Nat.zero_le _, fun D nD => ?_⟩
    have nDp := hp.ne nD
    refine ⟨_, rfl, ls, rfl, ⟨_, SqL.of (same_new nD _ _ ez)⟩, for_it (walk_list (K := K) (a := ls) (xs := zs)) (fun j σ H' => ∃ D P vs y4 y5 y6 y7 y8 y9 y10, σ = [some (.ref p), some (.ref ls), some (.ref q), some (.ref D), y4, y5, y6, y7, y8, y9, y10] ∧ Off p H H' ∧ SrcAt H' p (n + 60 * j) ∧ D ≠ p ∧ H D = none ∧ H' D = some (.lst vs) ∧ PairsE H' vs P ∧ (flatE P).Perm (contL (rows.take j) ES) ∧ (∀ pr ∈ P, (pr.1.2, pr.2.2) ∈ rows))
      ⟨D, [], [], none, none, none, none, none, none, none, rfl, Same.off (same_new nD), hp.same (same_new nD), nDp, nD, upd_same, .nil, List.Perm.refl _, fun _ z => nomatch z⟩ (fun j σ H' _ h => ?_) ?_ ?_⟩
    · obtain ⟨D, P, vs, y4, y5, y6, y7, y8, y9, y10, rfl, o, _⟩ := h
      exact SqL.of (o _ _ ez nls)
    · rintro j x σ H20 H2 hj ⟨D, P, vs, y4, y5, y6, y7, y8, y9, y10, rfl, o2, hp2, nDp, nDH, hD2, pv2, fl, hP⟩ ⟨rfl, hx⟩
      obtain ⟨rr, hrr⟩ : ∃ rr, rows[j]? = some rr := ⟨rows[j], List.getElem?_eq_getElem (by omega)⟩
      have hrm := List.mem_of_getElem? hrr
      obtain ⟨q2, rfl, tq2⟩ := row_at rz hx hrr
      refine ⟨q2, _, rfl, (tup_offL tq2 o2 hp0).sq, rfl, _, _, rfl, _, _, rfl, rfl, ?_⟩
      have ec : contL (rows.take (j + 1)) ES = contL (rows.take j) ES ++ contR ES rr := by rw [take_snoc hrr, contL_snoc]
      have hq2 := o2 _ _ hq nq
      have ev2 := ev.offL o2 hp0
      obtain ⟨a1, a2, a3, hpx, _⟩ := id hp2
      -- the ends of the sort
      refine ⟨_, rfl, _, rfl, q, rfl, ⟨_, SqL.of hq2⟩, fun D2 nD2 => ?_⟩
      refine lc_it (walk_list (K := K) (a := q) (xs := es')) (fun i H' => Same H2 (del H' D2) ∧ ∃ xs, H' D2 = some (.lst xs) ∧ EndsAt (del H' D2) xs (ofE (ES.take i) rr.1)) ⟨same_del' nD2, [], upd_same, .nil⟩ (fun i H' _ h => SqL.of (del_sub _ _ (h.1 _ _ hq2))) ?_ ?_
      · rintro i x H50 H5 hi ⟨s5, xs, hD5, ev5⟩ ⟨rfl, hx5⟩
        obtain ⟨e, he, t, rfl, tq⟩ := paired_at ev2 hx5
        have s5' := s5.trans (del_sub (H := H5) (p := D2))
        have tq5 := tq.same s5
        refine ⟨rfl, _, rfl, t, _, 1, _, rfl, rfl, (tq.same s5').sq, ix1, _, rfl, rfl, _, rfl, ?_⟩
        have eo := ofE_snoc rr.1 (ES.take i) e
        rw [← take_snoc he] at eo
        have lx := ev5.len
        have lo : (ofE (ES.take i) rr.1).length ≤ 60 := by
          rw [ofE_len]
          refine Nat.le_trans List.count_le_length ?_
          rw [List.length_map, List.length_take]
          omega
        refine ite2 (fun c => ?_) (fun c => ?_)
        · have ce : e.2 = rr.1 := by
            by_cases z : e.2 = rr.1
            · exact z
            · exfalso
              simp [z] at c
          refine ⟨_, rfl, _, hD5, small1000 (by omega), s5.trans del_upd_same, _, upd_same, ?_⟩
          rw [eo, if_pos ce]
          exact (ev5.same del_upd_same).app (.cons ⟨t, rfl, tq5.same del_upd_same⟩ .nil)
        · have ce : ¬ e.2 = rr.1 := fun z => by
            apply c
            simp [z]
          refine ⟨s5, xs, hD5, ?_⟩
          rw [eo, if_neg ce, List.append_nil]
          exact ev5
      rintro H5 ⟨s5, xs, hD5, ev5⟩
      rw [lev, List.take_of_length_le (Nat.le_refl _)] at ev5
      have s25 := s5.trans (del_sub (H := H5) (p := D2))
      have ev5 := ev5.same (del_sub (H := H5) (p := D2))
      have hp5 := hp2.same s25
      have nD2p := hp2.ne nD2
      have o5 : Off p H H5 := o2.trans (Same.off s25)
      have hD5' := s25 _ _ hD2
      have pv5 := pv2.same s25
      have c1 : (ES.map (·.2)).count rr.1 ≤ 60 := Nat.le_trans List.count_le_length (by rw [List.length_map]; exact l60)
      have lo1 := ofE_len rr.1 ES
      have lx1 := ev5.len
      have namF : ∀ s, ∀ e ∈ ofE ES s, nameS e.2 = true := fun s e he => nam e (ofE_mem he).1
      refine ⟨p, D2, _, xs, (ofE ES rr.1).map endT, rfl, hp5, by omega, hD5, nD2p, (ev5.del (s25 _ _ hpx)).dt2 (namF rr.1), fun d hd => by obtain ⟨e, _, rfl⟩ := List.mem_map.mp hd; exact low18_end e, by omega, fun u ys H6 nu pm hu hp6 o6 => ?_⟩
      have nup := hp5.ne nu
      obtain ⟨G, pG, evG0⟩ := paired_perm pm (show Paired (EndP H5) xs (ofE ES rr.1) from ev5)
      have evG0 : EndsAt H5 ys G := evG0
      have hpx5 := s25 _ _ hpx
      have evG := evG0.offL o6 hpx5
      have lG := evG.len
      have lG2 := pG.length_eq
      have gm : ∀ e ∈ G, e.2 = rr.1 := fun e he => (ofE_mem (pG.mem_iff.mp he)).2
      have pv6 := pv5.offL o6 hpx5
      have hD6 := o6 _ _ hD5' nDp
      have oA := o5.trans o6
      have hp6 := hp6.mono (show n + 60 * j + xs.length ≤ n + 60 * (j + 1) by omega)
      have lv := pv6.len
      have lP : 2 * P.length ≤ 360 := by
        have z := fl.length_eq
        rw [flatE_len] at z
        have z2 : ∀ l : Rows2, (contL l ES).length ≤ 60 * (2 * l.length) := fun l => by
          induction l with
          | nil => exact Nat.zero_le _
          | cons r l ih =>
            show (contR ES r ++ contL l ES).length ≤ _
            have z3 : (contR ES r).length ≤ 120 := by
              have w1 : ∀ s, (ofE ES s).length ≤ 60 := fun s => by
                rw [ofE_len]
                exact Nat.le_trans List.count_le_length (by rw [List.length_map]; exact l60)
              unfold contR
              split
              · have := w1 r.1
                omega
              · split
                · rw [List.length_append]
                  have := w1 r.1
                  have := w1 r.2
                  omega
                · exact Nat.zero_le _
            rw [List.length_append, List.length_cons]
            omega
        have z3 := z2 (rows.take j)
        have z4 : (rows.take j).length ≤ 3 := by rw [List.length_take]; omega
        omega
      have hq6 := oA _ _ hq nq
      have ev6 := ev.offL oA hp0
      refine ⟨_, rfl, _, rfl, rfl, _, rfl, ite2 (fun c => ?_) (fun c => ?_)⟩
      · have ce : rr.1 = rr.2 := by
          by_cases z : rr.1 = rr.2
          · exact z
          · exfalso
            simp [z] at c
        have even : G.length % 2 = 0 := by
          rw [lG2, lo1]
          exact (bal rr hrm).1 ce
        refine ⟨_, rfl, _, rfl, u, ys, rfl, .inl (SqL.of hu), _, _, rfl, rfl, ⟨by decide, by decide⟩, _, rfl, by omega, by omega, fun D3 nD3 => ?_⟩
        have em : ((ys.length : Int) / 2).toNat = G.length / 2 := by rw [← lG]; omega
        rw [em]
        refine lc_range (lo := 0) (n := G.length / 2) (fun i H' => Same H6 (del H' D3) ∧ ∃ vs2, H' D3 = some (.lst vs2) ∧ PairsE (del H' D3) vs2 (twos G i)) ⟨same_del' nD3, [], upd_same, .nil⟩ ?_ ?_
        · rintro i H7 hi ⟨s7, vs7, hD7, pv7⟩
          have s7' := s7.trans (del_sub (H := H7) (p := D3))
          obtain ⟨t1, w1, tq1⟩ := ends_at evG (endN_of (es := G) (i := 2 * i) (by omega))
          obtain ⟨t2, w2, tq2⟩ := ends_at evG (endN_of (es := G) (i := 2 * i + 1) (by omega))
          refine ⟨rfl, ?_⟩
          delta tYes
          dsimp only
          rw [if_pos rfl]
          refine ⟨_, rfl, _, rfl, _, _, rfl, rfl, .inl ⟨by decide, by decide⟩, u, ys, _, .ref t1, rfl, rfl, SqL.of (s7' _ _ hu), at_of (by omega) w1, _, rfl, _, rfl, _, _, rfl, rfl, .inl ⟨by decide, by decide⟩, _, _, rfl, rfl, u, ys, _, .ref t2, rfl, rfl, SqL.of (s7' _ _ hu), at_of (by omega) w2, by show 2 ≤ sizeLine; decide, fun tq ntq => ?_⟩
          have ntD3 : tq ≠ D3 := (ne_of_none hD7 ntq).symm
          have t8 := same_new (o := .tup [.ref t1, .ref t2]) ntq
          have htq : upd H7 tq (.tup [.ref t1, .ref t2]) tq = some (.tup [.ref t1, .ref t2]) := upd_same
          have hD8 := t8 _ _ hD7
          have s8 := s7.trans (same_del (l := D3) t8)
          have pv8 := pv7.same (same_del (l := D3) t8)
          generalize upd H7 tq (.tup [.ref t1, .ref t2]) = H8 at t8 htq hD8 s8 pv8 ⊢
          have lv8 : vs7.length ≤ 60 := by
            have z := pv7.len
            unfold twos at z
            rw [List.length_map, List.length_range] at z
            omega
          have sd : Same (del H8 D3) (del (upd H8 D3 (.lst (vs7 ++ [.ref tq]))) D3) := del_upd_same
          refine ⟨vs7, hD8, small1000 (by omega), s8.trans sd, vs7 ++ [.ref tq], upd_same, ?_⟩
          rw [twos_succ]
          refine (pv8.same sd).app (.cons ⟨tq, t1, t2, rfl, .of ?_, (tq1.same s8).same sd, (tq2.same s8).same sd⟩ .nil)
          rw [del_ne ntD3, upd_ne ntD3]
          exact htq
        rintro H7 ⟨s7, vs7, hD7, pv7⟩
        have s7' := s7.trans (del_sub (H := H7) (p := D3))
        have lv7 : vs7.length ≤ 60 := by
          have z := pv7.len
          unfold twos at z
          rw [List.length_map, List.length_range] at z
          omega
        refine ⟨D, D3, vs, vs7, rfl, rfl, s7' _ _ hD6, hD7, by rw [sizeLine_eq]; omega, fun r nr => ?_⟩
        have t8 := same_new (o := .lst (vs ++ vs7)) nr
        have oB := oA.trans (Same.off (s7'.trans t8))
        have hp8 := (hp6.same s7').same t8
        refine ⟨r, P ++ twos G (G.length / 2), vs ++ vs7, _, _, _, _, _, _, _, rfl, oB, hp8, (hp6.same s7').ne nr, (oA.trans (Same.off s7')).free (hp6.same s7') nr, upd_same, ((pv6.same s7').same t8).app ((pv7.same del_sub).same t8), ?_, ?_⟩
        · rw [flatE_app, twos_flat G _ (by omega), List.take_of_length_le (by omega), ec]
          refine fl.append ?_
          unfold contR
          rw [if_pos ce]
          exact pG
        · intro pr hpr
          rcases List.mem_append.mp hpr with y | y
          · exact hP pr y
          · unfold twos at y
            obtain ⟨i, hi, rfl⟩ := List.mem_map.mp y
            have hi2 := List.mem_range.mp hi
            have g1 := gm _ (List.mem_of_getElem? (endN_of (es := G) (i := 2 * i) (by omega)))
            have g2 := gm _ (List.mem_of_getElem? (endN_of (es := G) (i := 2 * i + 1) (by omega)))
            show ((endN G (2 * i)).2, (endN G (2 * i + 1)).2) ∈ rows
            rw [g1, g2]
            have e3 : (rr.1, rr.1) = rr := by
              rw [show rr = (rr.1, rr.2) from rfl, ← ce]
            rw [e3]
            exact hrm
      · have ce : ¬ rr.1 = rr.2 := fun z => by
          apply c
          simp [z]
        have dS1 : Dt H6 (.str rr.1) (.str rr.1) := .str _ (okS_name (rn rr hrm).1)
        have dS2 : Dt H6 (.str rr.2) (.str rr.2) := .str _ (okS_name (rn rr hrm).2)
        refine ⟨_, rfl, _, rfl, _, _, dS1.dp rfl, dS2.dp rfl, by simp [PySem.W.alike], (by intro z; cases z), Nat.zero_le _, _, rfl, ?_⟩
        rw [strLt]
        refine ite2 (fun c2 => ?_) (fun c2 => ?_)
        · have lt : ltS rr.1 rr.2 = true := c2
          refine ⟨_, rfl, q, rfl, ⟨_, SqL.of hq6⟩, fun D3 nD3 => ?_⟩
          refine lc_it (walk_list (K := K) (a := q) (xs := es')) (fun i H' => Same H6 (del H' D3) ∧ ∃ xs, H' D3 = some (.lst xs) ∧ EndsAt (del H' D3) xs (ofE (ES.take i) rr.2)) ⟨same_del' nD3, [], upd_same, .nil⟩ (fun i H' _ h => SqL.of (del_sub _ _ (h.1 _ _ hq6))) ?_ ?_
          · rintro i x H70 H7 hi ⟨s7, xs7, hD7, ev7⟩ ⟨rfl, hx5⟩
            obtain ⟨e, he, t, rfl, tq⟩ := paired_at ev6 hx5
            have s7' := s7.trans (del_sub (H := H7) (p := D3))
            have tq7 := tq.same s7
            refine ⟨rfl, _, rfl, t, _, 1, _, rfl, rfl, (tq.same s7').sq, ix1, _, rfl, rfl, _, rfl, ?_⟩
            have eo := ofE_snoc rr.2 (ES.take i) e
            rw [← take_snoc he] at eo
            have lx := ev7.len
            have lo : (ofE (ES.take i) rr.2).length ≤ 60 := by
              rw [ofE_len]
              refine Nat.le_trans List.count_le_length ?_
              rw [List.length_map, List.length_take]
              omega
            refine ite2 (fun c => ?_) (fun c => ?_)
            · have ce : e.2 = rr.2 := by
                by_cases z : e.2 = rr.2
                · exact z
                · exfalso
                  simp [z] at c
              refine ⟨_, rfl, _, hD7, small1000 (by omega), s7.trans del_upd_same, _, upd_same, ?_⟩
              rw [eo, if_pos ce]
              exact (ev7.same del_upd_same).app (.cons ⟨t, rfl, tq7.same del_upd_same⟩ .nil)
            · have ce : ¬ e.2 = rr.2 := fun z => by
                apply c
                simp [z]
              refine ⟨s7, xs7, hD7, ?_⟩
              rw [eo, if_neg ce, List.append_nil]
              exact ev7
          rintro H7 ⟨s7, xs7, hD7, ev7⟩
          rw [lev, List.take_of_length_le (Nat.le_refl _)] at ev7
          have s67 := s7.trans (del_sub (H := H7) (p := D3))
          have evF := ev7.same (del_sub (H := H7) (p := D3))
          have lF := evF.len
          have lo2 := ofE_len rr.2 ES
          have eqc : G.length = (ofE ES rr.2).length := by
            rw [lG2, lo1, lo2]
            exact (bal rr hrm).2 ce
          have fm : ∀ e ∈ ofE ES rr.2, e.2 = rr.2 := fun e he => (ofE_mem he).2
          have hu7 := s67 _ _ hu
          have evG7 := evG.same s67
          refine ⟨_, rfl, _, rfl, u, ys, rfl, .inl (SqL.of hu7), _, rfl, by omega, by omega, fun D4 nD4 => ?_⟩
          have em : ((ys.length : Nat) : Int).toNat = G.length := by rw [← lG]; exact Int.toNat_natCast _
          rw [em]
          refine lc_range (lo := 0) (n := G.length) (fun i H' => Same H7 (del H' D4) ∧ ∃ vs2, H' D4 = some (.lst vs2) ∧ PairsE (del H' D4) vs2 (across G (ofE ES rr.2) i)) ⟨same_del' nD4, [], upd_same, .nil⟩ ?_ ?_
          · rintro i H8 hi ⟨s8, vs8, hD8, pv8⟩
            have s8' := s8.trans (del_sub (H := H8) (p := D4))
            obtain ⟨t1, w1, tq1⟩ := ends_at evG7 (endN_of (es := G) (i := i) (by omega))
            obtain ⟨t2, w2, tq2⟩ := ends_at evF (endN_of (es := ofE ES rr.2) (i := i) (by omega))
            refine ⟨rfl, ?_⟩
            delta tYes
            dsimp only
            rw [if_pos rfl]
            refine ⟨_, rfl, _, rfl, u, ys, _, .ref t1, rfl, rfl, SqL.of (s8' _ _ hu7), at_of (by omega) w1, _, rfl, _, rfl, D3, xs7, _, .ref t2, rfl, rfl, SqL.of (s8' _ _ hD7), at_of (by omega) w2, by show 2 ≤ sizeLine; decide, fun tq ntq => ?_⟩
            have ntD4 : tq ≠ D4 := (ne_of_none hD8 ntq).symm
            have t9 := same_new (o := .tup [.ref t1, .ref t2]) ntq
            have htq : upd H8 tq (.tup [.ref t1, .ref t2]) tq = some (.tup [.ref t1, .ref t2]) := upd_same
            have hD9 := t9 _ _ hD8
            have s9 := s8.trans (same_del (l := D4) t9)
            have pv9 := pv8.same (same_del (l := D4) t9)
            generalize upd H8 tq (.tup [.ref t1, .ref t2]) = H9 at t9 htq hD9 s9 pv9 ⊢
            have lv8 : vs8.length ≤ 60 := by
              have z := pv8.len
              unfold across at z
              rw [List.length_map, List.length_range] at z
              omega
            have sd : Same (del H9 D4) (del (upd H9 D4 (.lst (vs8 ++ [.ref tq]))) D4) := del_upd_same
            refine ⟨vs8, hD9, small1000 (by omega), s9.trans sd, vs8 ++ [.ref tq], upd_same, ?_⟩
            rw [across_succ]
            refine (pv9.same sd).app (.cons ⟨tq, t1, t2, rfl, .of ?_, (tq1.same s9).same sd, (tq2.same s9).same sd⟩ .nil)
            rw [del_ne ntD4, upd_ne ntD4]
            exact htq
          rintro H8 ⟨s8, vs8, hD8, pv8⟩
          have s8' := s67.trans (s8.trans (del_sub (H := H8) (p := D4)))
          have lv8 : vs8.length ≤ 60 := by
            have z := pv8.len
            unfold across at z
            rw [List.length_map, List.length_range] at z
            omega
          refine ⟨D, D4, vs, vs8, rfl, rfl, s8' _ _ hD6, hD8, by rw [sizeLine_eq]; omega, fun r nr => ?_⟩
          have t9 := same_new (o := .lst (vs ++ vs8)) nr
          have oB := oA.trans (Same.off (s8'.trans t9))
          have hp9 := (hp6.same s8').same t9
          refine ⟨r, P ++ across G (ofE ES rr.2) G.length, vs ++ vs8, _, _, _, _, _, _, _, rfl, oB, hp9, (hp6.same s8').ne nr, (oA.trans (Same.off s8')).free (hp6.same s8') nr, upd_same, ((pv6.same s8').same t9).app ((pv8.same del_sub).same t9), ?_, ?_⟩
          · rw [flatE_app, ec]
            refine fl.append ?_
            unfold contR
            rw [if_neg ce, if_pos lt]
            have w := across_flat G (ofE ES rr.2) G.length (Nat.le_refl _) (by omega)
            rw [List.take_of_length_le (Nat.le_refl _), List.take_of_length_le (by omega)] at w
            exact w.trans (pG.append (List.Perm.refl _))
          · intro pr hpr
            rcases List.mem_append.mp hpr with y | y
            · exact hP pr y
            · unfold across at y
              obtain ⟨i, hi, rfl⟩ := List.mem_map.mp y
              have hi2 := List.mem_range.mp hi
              have g1 := gm _ (List.mem_of_getElem? (endN_of (es := G) (i := i) (by omega)))
              have g2 := fm _ (List.mem_of_getElem? (endN_of (es := ofE ES rr.2) (i := i) (by omega)))
              show ((endN G i).2, (endN (ofE ES rr.2) i).2) ∈ rows
              rw [g1, g2]
              exact hrm
        · have lt : ¬ ltS rr.1 rr.2 = true := c2
          refine ⟨D, P, vs, _, _, _, _, _, _, _, rfl, oA, hp6, nDp, nDH, hD6, pv6, ?_, hP⟩
          rw [ec]
          unfold contR
          rw [if_neg ce, if_neg lt, List.append_nil]
          exact fl
    · rintro σ H2 ⟨D, P, vs, y4, y5, y6, y7, y8, y9, y10, rfl, o2, hp2, nDp, nDH, hD2, pv2, fl, hP⟩
      rw [lzs, List.take_of_length_le (Nat.le_refl _)] at fl
      have flE := fl.trans (cont_all mu hES)
      have lP : 2 * P.length = ES.length := by
        have z := flE.length_eq
        rw [flatE_len] at z
        exact z
      have pn : ∀ pr ∈ P, nameS pr.1.2 = true ∧ nameS pr.2.2 = true := fun pr hpr => by
        have m1 : pr.1 ∈ flatE P := List.mem_flatMap.mpr ⟨pr, hpr, by simp⟩
        have m2 : pr.2 ∈ flatE P := List.mem_flatMap.mpr ⟨pr, hpr, by simp⟩
        exact ⟨nam _ (flE.mem_iff.mp m1), nam _ (flE.mem_iff.mp m2)⟩
      have lv := pv2.len
      refine ⟨_, rfl, D, rfl, ⟨_, SqL.of hD2⟩, fun D5 nD5 => ?_⟩
      refine lc_it (walk_list (K := K) (a := D) (xs := vs)) (fun i H' => Same H2 (del H' D5) ∧ ∃ ws, H' D5 = some (.lst ws) ∧ JoinsAt (del H' D5) ws ((P.take i).map jrow)) ⟨same_del' nD5, [], upd_same, .nil⟩ (fun i H' _ h => SqL.of (del_sub _ _ (h.1 _ _ hD2))) ?_ ?_
      · rintro i x H70 H7 hi ⟨s7, ws7, hD7, jv7⟩ ⟨rfl, hx5⟩
        obtain ⟨pr, hpr, t, t1, t2, rfl, tq, tq1, tq2⟩ := paired_at pv2 hx5
        have s7' := s7.trans (del_sub (H := H7) (p := D5))
        obtain ⟨n1, n2⟩ := pn pr (List.mem_of_getElem? hpr)
        have w1 := tq1.same s7'
        have w2 := tq2.same s7'
        have d1 := (dt_endT n1 w1).dp (K := K) (low_endT pr.1).nd
        have d2 := (dt_endT n2 w2).dp (K := K) (low_endT pr.2).nd
        have dps : ∀ y ∈ [(endT pr.1, V.ref t1), (endT pr.2, V.ref t2)], Dp K H7 y.2 y.1 := fun y hy => by
          have hy2 : y = (endT pr.1, V.ref t1) ∨ y = (endT pr.2, V.ref t2) := by simpa using hy
          rcases hy2 with rfl | rfl
          · exact d1
          · exact d2
        have al : PySem.W.AlikeAll [endT pr.1, endT pr.2] := alike_two _ _
        have dep : PyData.depthAll [endT pr.1, endT pr.2] ≤ 20 := by
          have q := depth_all (n := 18) (ds := [endT pr.1, endT pr.2]) fun d hd => by
            have hd2 : d = endT pr.1 ∨ d = endT pr.2 := by simpa using hd
            rcases hd2 with rfl | rfl
            · exact (low18_end pr.1).dep
            · exact (low18_end pr.2).dep
          omega
        refine ⟨rfl, ?_⟩
        delta tYes
        dsimp only
        rw [if_pos rfl]
        refine ⟨_, rfl, t, (endT pr.1, .ref t1), [(endT pr.2, .ref t2)], rfl, (tq.same s7').sq, dps, al, dep, fun ya hya eya => ?_⟩
        obtain ⟨ta, ea, wa⟩ := pick_end w1 w2 hya (eya.trans (min_endT pr))
        rw [ea]
        refine ⟨_, rfl, t, (endT pr.1, .ref t1), [(endT pr.2, .ref t2)], rfl, (tq.same s7').sq, dps, al, dep, fun yb hyb eyb => ?_⟩
        obtain ⟨tb, eb, wb⟩ := pick_end w1 w2 hyb (eyb.trans (max_endT pr))
        rw [eb]
        refine ⟨ta, tb, _, _, rfl, rfl, wa.sq, wb.sq, (by intro z; cases z), (by show 4 ≤ sizeLine; decide), (fun z => nomatch z), fun _ v nv => ?_⟩
        have nvD : v ≠ D5 := (ne_of_none hD7 nv).symm
        have t8 := same_new (o := .tup (joinV (jrow pr))) nv
        have hv : upd H7 v (.tup (joinV (jrow pr))) v = some (.tup (joinV (jrow pr))) := upd_same
        have hD8 := t8 _ _ hD7
        have s8 := s7.trans (same_del (l := D5) t8)
        have jv8 := jv7.same (same_del (l := D5) t8)
        show ∃ acc, _
        have lw : ws7.length ≤ 60 := by
          have z := jv7.len
          rw [List.length_map, List.length_take] at z
          omega
        refine ⟨ws7, hD8, small1000 (by omega), s8.trans del_upd_same, ws7 ++ [.ref v], upd_same, ?_⟩
        rw [take_snoc hpr, List.map_append]
        refine (jv8.same del_upd_same).app (.cons ⟨v, rfl, .of ?_⟩ .nil)
        rw [del_ne nvD, upd_ne nvD]
        exact hv
      rintro H7 ⟨s7, ws7, hD7, jv7⟩
      rw [lv, List.take_of_length_le (Nat.le_refl _)] at jv7
      have s7' := s7.trans (del_sub (H := H7) (p := D5))
      have gj : ∀ j ∈ P.map jrow, GoodJ rows j := fun j hj => by
        obtain ⟨pr, hpr, rfl⟩ := List.mem_map.mp hj
        exact jrow_good mu (hP pr hpr) (pn pr hpr).1 (pn pr hpr).2
      have lw := jv7.len
      rw [List.length_map] at lw
      have d7 : Dt H7 (.ref D5) (.list ((P.map jrow).map joinT)) := .lst hD7 (by omega) ((jv7.same del_sub).dt gj)
      delta tNil
      dsimp only
      refine sort_ok d7 (fun d hd => by obtain ⟨e, _, rfl⟩ := List.mem_map.mp hd; exact ⟨(low_joinT e).nd, (low_joinT e).dep⟩) (alike_joins _) (sortable_joins _) fun pj H8 dpj s8 => ?_
      rw [sortD_J] at dpj
      obtain ⟨wsj, ews, lws, rws⟩ := dt_list dpj
      have hp8 := (hp2.same s7').same s8
      exact k pj wsj (P.map jrow) H8 ews (joins_back rws) ((jrow_split P).trans flE) gj (hp8.mono (by omega)) (o2.trans (Same.off (s7'.trans s8)))
end
end Toy
set_option Elab.async false
set_option linter.all false
set_option maxRecDepth 100000
set_option maxHeartbeats 4000000
namespace Toy
open PySem PySem.Spec PyProof.Rows L2
theorem low_legrows (lg : Rows2) : Low 20 (.list (lg.map rowT)) := low_rows lg
/-- what a drawing is drawn of -/
structure Drawn (H : Hp) (rows : Rows2) (ks : List KRow) (c g u : Addr) (cs : List Str) (lg : Rows2) (ws : List V) (js : List JRow) : Prop where
  hcs : ∀ x ∈ cs, x ∈ ks.map (·.1)
  LG : LegsG rows lg
  okl : ∀ g ∈ lg, okw g.1 = true
  hc : H c = some (.lst (cs.map V.str))
  dg : Dt H (.ref g) (.list (lg.map rowT))
  hu : H u = some (.lst ws)
  jv : JoinsAt H ws (sortJ js)
  pm : (js.map (·.1) ++ js.map (·.2)).Perm (allE ks cs lg)
  gj : ∀ j ∈ js, GoodJ rows j
  bal : Bal rows (sortsE ks cs lg)
theorem Drawn.same {H H' : Hp} {rows : Rows2} {ks : List KRow} {c g u : Addr} {cs : List Str} {lg : Rows2} {ws : List V} {js : List JRow} (d : Drawn H rows ks c g u cs lg ws js) (s : Same H H') : Drawn H' rows ks c g u cs lg ws js :=
  ⟨d.hcs, d.LG, d.okl, s _ _ d.hc, d.dg.same s, s _ _ d.hu, d.jv.same s, d.pm, d.gj, d.bal⟩
theorem JoinsAt.offL {l : Addr} {H H' : Hp} {vs ys : List V} {js : List JRow} (h : JoinsAt H vs js) (o : Off l H H') (e : H l = some (.lst ys)) : JoinsAt H' vs js := L2.Paired.mapP h fun _ _ ⟨q, e1, t⟩ => ⟨q, e1, tup_offL t o e⟩
theorem joins_src {H : Hp} {p q : Addr} {n : Nat} {ws : List V} {js : List JRow} (hp : SrcAt H p n) (hq : H q = some (.lst ws)) (jv : JoinsAt H ws js) : q ≠ p := lst_src hp hq fun x e => by
  obtain ⟨j, _, t, z, _⟩ := paired_at (show Paired _ ws js from jv) e
  cases z
theorem strs_src {H : Hp} {p q : Addr} {n : Nat} {cs : List Str} (hp : SrcAt H p n) (hq : H q = some (.lst (cs.map V.str))) : q ≠ p := lst_src hp hq fun x e => by
  obtain ⟨z, _, h⟩ := map_str_at e
  cases h
theorem Drawn.off {p : Addr} {n : Nat} {H H' : Hp} {rows : Rows2} {ks : List KRow} {c g u : Addr} {cs : List Str} {lg : Rows2} {ws : List V} {js : List JRow} (d : Drawn H rows ks c g u cs lg ws js) (hp : SrcAt H p n) (o : Off p H H') : Drawn H' rows ks c g u cs lg ws js := by
  obtain ⟨a1, a2, a3, hp0, _⟩ := id hp
  exact ⟨d.hcs, d.LG, d.okl, o _ _ d.hc (strs_src hp d.hc), d.dg.off hp (noInt_rows lg) o, o _ _ d.hu (joins_src hp d.hu d.jv), d.jv.offL o hp0, d.pm, d.gj, d.bal⟩
def spDrawing : Sp := fun vs H Q _ => ∃ (p ls lk : Addr) (n most : Nat) (rows : Rows2) (ks : List KRow) (ws : List V), vs = [.ref p, .ref ls, .ref lk, .int (most : Int)] ∧ SrcAt H p n ∧ n ≤ 9000 ∧ most ≤ 6 ∧ Dt H (.ref ls) (.list (rows.map rowT)) ∧ GoodS rows ∧ Mut rows ∧ H lk = some (.lst ws) ∧ Paired (KndP H) ws ks ∧ GoodK (rows.map (·.1)) ks ∧ 1 ≤ ks.length ∧ ks.length ≤ 4 ∧
  ∀ (t c g u : Addr) (cs : List Str) (lg : Rows2) (wj : List V) (js : List JRow) (H' : Hp), cs.length ≤ most → Drawn H' rows ks c g u cs lg wj js → TupAt H' t [.ref c, .ref g, .ref u] → SrcAt H' p (n + 500) → Off p H H' → Q (.ref t) H'
theorem emp_ok : okS ("" : Str) := ⟨by decide, by decide +kernel⟩
theorem zipR_snoc (xs ys : List Str) {i : Nat} {x y : Str} (hx : xs[i]? = some x) (hy : ys[i]? = some y) : (xs.zip ys).take (i + 1) = (xs.zip ys).take i ++ [(x, y)] := take_snoc (List.getElem?_zip_eq_some.mpr ⟨hx, hy⟩)
theorem cut_last (cs : List Str) : cutV (cs.map V.str) none (some (-1)) = (cs.take (cs.length - 1)).map V.str := by
  unfold cutV
  rw [HT.sIx_none, List.drop_zero, ← List.map_take]
  have e : HT.sIx (cs.map V.str).length (cs.map V.str).length (some (-1)) - 0 = cs.length - 1 := by
    show (if (-1 : Int) < 0 then ((-1 : Int) + ((cs.map V.str).length : Int)).toNat else min (-1 : Int).toNat (cs.map V.str).length) - 0 = _
    rw [if_pos (by decide), List.length_map]
    omega
  rw [e]
theorem zip_fst_take : ∀ (xs ys : List Str), (xs.zip ys).map (·.1) = xs.take (min xs.length ys.length)
  | [], ys => by simp
  | x :: xs, [] => by simp
  | x :: xs, y :: ys => by
    rw [List.zip_cons_cons, List.map_cons, zip_fst_take xs ys, List.length_cons, List.length_cons, Nat.succ_min_succ]
    rfl
theorem sorts_of_corn {ks : List KRow} (cs : List Str) (wl : List Str) : sortsE ks cs (wl.map fun s => (("" : Str), s)) = cs.flatMap (kEnds ks) ++ wl := by
  unfold sortsE
  rw [List.map_map]
  congr 1
  exact List.map_id'' (fun _ => rfl) wl
theorem leg_bal {rows : Rows2} (m : Mut rows) {ks : List KRow} {cs wl : List Str} {lg : Rows2} (h : (lg.map (·.2)).Perm (wl ++ wantL rows (sortsE ks cs (wl.map fun s => (("" : Str), s))))) : Bal rows (sortsE ks cs lg) := by
  have q := bal_want m (sortsE ks cs (wl.map fun s => (("" : Str), s)))
  refine Bal.perm ?_ q
  rw [sorts_of_corn]
  unfold sortsE
  rw [List.append_assoc]
  refine List.Perm.append_left _ ?_
  have h2 := h
  rw [sorts_of_corn] at h2
  exact h2.symm
section
variable {P : Program} {w : World} {K : PySem.W.Frag} {mg : Str → Option Value} {base : Heap}
abbrev drN : List Str := ["_law_source", "_law_sorts", "_law_kinds", "_law_most", "_law_corners", "_law_k", "_law_wished", "_law_names_here", "_law_leg_sorts", "_law_sort", "_law_legs"]
theorem scDrawing : FnScope drN ["_law_source", "_law_sorts", "_law_kinds", "_law_most"] (defScope sDrawing) := ⟨rfl, rfl, rfl, by decide +kernel, rfl, by decide +kernel, by decide +kernel⟩
theorem ok_drawing {f fN fO fX fM fL fE fP : Addr} {fd fdN fdO fdX fdM fdL fdE fdP : FuncData} (F : Fun K "_law_drawing" "_law_drawing" sDrawing f fd) (M : Mods mg)
    (GN : FnOk P w K mg base CX0 1 fN fdN ["_law_source", "_law_many"] spNext) (kN : PySem.W.keepIn K (.ref fN) = true) (bN : Binds K fdN ["_law_source", "_law_many"] []) (gN : mg "_law_next" = some (.ref fN))
    (GO : FnOk P w K mg base CX0 2 fO fdO ["_law_source", "_law_some"] spOne) (kO : PySem.W.keepIn K (.ref fO) = true) (bO : Binds K fdO ["_law_source", "_law_some"] []) (gO : mg "_law_one" = some (.ref fO))
    (GM : FnOk P w K mg base CX0 3 fM fdM ["_law_source", "_law_many"] spNames) (kM : PySem.W.keepIn K (.ref fM) = true) (bM : Binds K fdM ["_law_source", "_law_many"] []) (gM : mg "_law_names" = some (.ref fM))
    (GX : FnOk P w K mg base CX0 2 fX fdX ["_law_source", "_law_some"] spMixed) (kX : PySem.W.keepIn K (.ref fX) = true) (bX : Binds K fdX ["_law_source", "_law_some"] []) (gX : mg "_law_mixed" = some (.ref fX))
    (GL : FnOk P w K mg base CX0 1 fL fdL ["_law_sorts", "_law_ends_here"] spLacking) (kL : PySem.W.keepIn K (.ref fL) = true) (bL : Binds K fdL ["_law_sorts", "_law_ends_here"] []) (gL : mg "_law_lacking" = some (.ref fL))
    (GE : FnOk P w K mg base CX0 1 fE fdE ["_law_kinds", "_law_corners", "_law_legs"] spLEnds) (kE : PySem.W.keepIn K (.ref fE) = true) (bE : Binds K fdE ["_law_kinds", "_law_corners", "_law_legs"] []) (gE : mg "_law_ends" = some (.ref fE))
    (GP : FnOk P w K mg base CX0 3 fP fdP ["_law_source", "_law_sorts", "_law_ends_here"] spPaired) (kP : PySem.W.keepIn K (.ref fP) = true) (bP : Binds K fdP ["_law_source", "_law_sorts", "_law_ends_here"] []) (gP : mg "_law_paired" = some (.ref fP))
    (mR : mg "range" = none) :
    FnOk P w K mg base CX0 4 f fd ["_law_source", "_law_sorts", "_law_kinds", "_law_most"] spDrawing := by
  refine F.ok scDrawing (fun vs H Q E h => ?_) (fun cdv A outer s H vs Q E hr h => ?_)
  · obtain ⟨p, ls, lk, n, most, rows, ks, ws, rfl, _⟩ := h
    rfl
  · obtain ⟨p, ls, lk, n, most, rows, ks, ws, rfl, hp, hn, m6, ds, gd, mu, hw, kn, gk, l1k, l4k, k⟩ := h
    have hr1 : Room 1 (A.deeper (envOfC "_law_drawing" (defScope sDrawing) s.heap.objs.size f cdv)) := hr.mono (by decide)
    have hr2 : Room 2 (A.deeper (envOfC "_law_drawing" (defScope sDrawing) s.heap.objs.size f cdv)) := hr.mono (by decide)
    have hr3 : Room 3 (A.deeper (envOfC "_law_drawing" (defScope sDrawing) s.heap.objs.size f cdv)) := hr.mono (by decide)
    obtain ⟨g1, g3, gnm, gnd, gmu⟩ := good_rows gd
    refine ⟨_, (pss_cons (ps_setLc (i := 4) (own := [("_law_k", 5)]) (g := gName 5) (tt := tYes) (te := (tOp (rIxT K) (tCall spOne [] E0 (tCons (tVar 0) (tCons (tVar 2) tNil))) (tC (.int 0)))) rfl scDrawing.nd rfl rfl (sw_true rfl rfl rfl (by decide +kernel)) (pi_range1 (by rfl) mR (pa_cons (pe_call GN hr1 (by rfl) gN kN bN .nil pass0 (pa_cons (pv 0) (pa_cons (pe_op op_add (pv 3) pe_int) pa_nil))) pa_nil)) (blkOk_by (N := drN) (sc := defScope sDrawing) (by decide +kernel)) (fun _ _ _ _ _ => pg_name (i := 5) scDrawing.nd rfl (Or.inl rfl)) (fun _ _ _ _ _ => pts_nil) (fun _ _ _ _ _ => (by exact (pe_ix ix_tup (pe_call GO hr2 (by rfl) gO kO bO .nil pass0 (pa_cons (pv 0) (pa_cons (pv 2) pa_nil))) pe_int (fun _ _ => rfl)))))
      (pss_cons (ps_setLc (i := 6) (own := [("_law_k", 5)]) (g := gName 5) (tt := tYes) (te := (tOp (rIxT K) (tCall spOne [] E0 (tCons (tVar 0) (tCons (tVar 1) tNil))) (tC (.int 0)))) rfl scDrawing.nd rfl rfl (sw_true rfl rfl rfl (by decide +kernel)) (pi_range1 (by rfl) mR (pa_cons (pe_call GO hr2 (by rfl) gO kO bO .nil pass0 (pa_cons (pv 0) (pa_cons (pe_lst (pa_cons pe_int (pa_cons pe_int (pa_cons pe_int (pa_cons pe_int pa_nil))))) pa_nil))) pa_nil)) (blkOk_by (N := drN) (sc := defScope sDrawing) (by decide +kernel)) (fun _ _ _ _ _ => pg_name (i := 5) scDrawing.nd rfl (Or.inl rfl)) (fun _ _ _ _ _ => pts_nil) (fun _ _ _ _ _ => (by exact (pe_ix ix_tup (pe_call GO hr2 (by rfl) gO kO bO .nil pass0 (pa_cons (pv 0) (pa_cons (pv 1) pa_nil))) pe_int (fun _ _ => rfl)))))
      (pss_cons (ps_set (i := 7) scDrawing.nd rfl (Or.inr rfl) (pe_call GX hr2 (by rfl) gX kX bX .nil pass0 (pa_cons (pv 0) (pa_cons (pe_call GM hr3 (by rfl) gM kM bM .nil pass0 (pa_cons (pv 0) (pa_cons pe_int pa_nil))) pa_nil))))
      (pss_one (ps_while PassesOwn.never (pt_val pe_bl) (pss_cons (ps_set (i := 8) scDrawing.nd rfl (Or.inr rfl) (pe_op op_cat (pv 6) (pe_call GL hr1 (by rfl) gL kL bL .nil pass0 (pa_cons (pv 1) (pa_cons (pe_call GE hr1 (by rfl) gE kE bE .nil pass0 (pa_cons (pv 2) (pa_cons (pv 4) (pa_cons (pe_lc (own := [("_law_sort", 9)]) (g := gName 9) (tt := tYes) (te := tTup (tCons (tC (.str "")) (tCons (tVar 9) tNil))) rfl scDrawing.nd (pi_list (pv 6)) (blkOk_by (N := drN) (sc := defScope sDrawing) (by decide +kernel)) (fun _ _ _ _ _ => pg_name (i := 9) scDrawing.nd rfl (Or.inl rfl)) (fun _ _ _ _ _ => pts_nil) (fun _ _ _ _ _ => (by exact (pe_tup (pa_cons pe_str (pa_cons (pv 9) pa_nil)))))) pa_nil)))) pa_nil)))))
      (pss_cons (ps_if (pt_cmpR op_le (pe_callB call_len_seq (by rfl) M.len PySem.boot_len (pa_cons (pv 8) pa_nil)) pe_int (nomark _)) (pss_cons (ps_set (i := 10) scDrawing.nd rfl (Or.inl rfl) (pe_callB (cr_sortD hr.units) (by rfl) M.srt (by decide +kernel) (pa_cons (pe_lc (own := [("_law_k", 5)]) (g := gName 5) (tt := tYes) (te := tTup (tCons (tOp (rIxL K) (tVar 7) (tVar 5)) (tCons (tOp (rIxL K) (tVar 8) (tVar 5)) tNil))) rfl scDrawing.nd (pi_range1 (by rfl) mR (pa_cons (pe_callB call_len_seq (by rfl) M.len PySem.boot_len (pa_cons (pv 8) pa_nil)) pa_nil)) (blkOk_by (N := drN) (sc := defScope sDrawing) (by decide +kernel)) (fun _ _ _ _ _ => pg_name (i := 5) scDrawing.nd rfl (Or.inl rfl)) (fun _ _ _ _ _ => pts_nil) (fun _ _ _ _ _ => (by exact (pe_tup (pa_cons (pe_ix ix_list (pv 7) (pv 5) (fun _ _ => rfl)) (pa_cons (pe_ix ix_list (pv 8) (pv 5) (fun _ _ => rfl)) pa_nil)))))) pa_nil)))
      (pss_one (ps_ret (pe_tup (pa_cons (pv 4) (pa_cons (pv 10) (pa_cons (pe_call GP hr3 (by rfl) gP kP bP .nil pass0 (pa_cons (pv 0) (pa_cons (pv 1) (pa_cons (pe_call GE hr1 (by rfl) gE kE bE .nil pass0 (pa_cons (pv 2) (pa_cons (pv 4) (pa_cons (pv 10) pa_nil)))) pa_nil)))) pa_nil))))))) pss_nil)
      (pss_cons (ps_set (i := 4) scDrawing.nd rfl (Or.inl rfl) (pe_slice sl_list (pv 4) po_none (po_some (pe_un un_neg pe_int))))
      (pss_one (ps_set (i := 6) scDrawing.nd rfl (Or.inl rfl) (pe_lst pa_nil))))))))))), ?_⟩
    have nlk := knds_src hp hw kn
    have nls := rows_src hp ds
    have lws : ws.length = ks.length := (show Paired _ ws ks from kn).length
    have k5 : ∀ kr ∈ ks, kr.2.length ≤ 5 := fun kr hk => (gk.en kr hk).2.1
    -- the corners
    refine ⟨_, rfl, _, rfl, _, _, rfl, rfl, p, ((most : Int) + 1), n, rfl, hp, by omega, by omega, by omega, fun r H1 r0 r1 hp1 o1 => ?_⟩
    obtain ⟨m, rfl⟩ := Int.eq_ofNat_of_zero_le r0
    refine ⟨_, rfl, by omega, by omega, fun C nC => ?_⟩
    have nCp := hp1.ne nC
    have em : ((m : Int)).toNat = m := Int.toNat_natCast m
    rw [em]
    have C0 : H C = none := o1.free hp1 nC
    refine lc_range (lo := 0) (n := m) (fun j H' => Off p H H' ∧ SrcAt H' p (n + 1 + j) ∧ ∃ es : List Str, H' C = some (.lst (es.map V.str)) ∧ es.length = j ∧ ∀ x ∈ es, x ∈ ks.map (·.1)) ⟨o1.upd0 C0, (hp1.same (same_new nC)).mono (by omega), [], upd_same, rfl, fun _ z => nomatch z⟩ ?_ ?_
    · rintro j H12 hj ⟨o12, hp12, es, hD12, le, hes⟩
      refine ⟨rfl, ?_⟩
      show tOp (rIxT K) (tCall spOne [] E0 (tCons (tVar 0) (tCons (tVar 2) tNil))) (tC (.int 0)) _ _ _
      have hw12 := o12 _ _ hw nlk
      refine ⟨_, rfl, _, rfl, p, lk, ws, _, rfl, hp12, by omega, hw12, nlk, by omega, by omega, fun y H13 hy hp13 o13 => ?_⟩
      have kn13 := knds_off hp kn (o12.trans o13)
      obtain ⟨i, hi⟩ := List.mem_iff_getElem?.mp hy
      obtain ⟨kr, hkr, q, tt, rfl, tq, _⟩ := paired_at kn13 hi
      refine ⟨q, _, 0, _, rfl, rfl, tq.sq, ix0, ?_⟩
      have hD13 := o13 _ _ hD12 nCp
      refine ⟨_, hD13, ?_, (o12.trans o13).upd0 C0, ((hp13.upd nCp).mono (by omega)), es ++ [kr.1], ?_, ?_, ?_⟩
      · rw [List.length_map]
        exact small1000 (by omega)
      · rw [upd_same, List.map_append]
        rfl
      · rw [List.length_append, le]
        rfl
      · intro x hx
        rcases List.mem_append.mp hx with h | h
        · exact hes x h
        · rw [List.mem_singleton.mp h]
          exact List.mem_map_of_mem (f := (·.1)) (List.mem_of_getElem? hkr)
    rintro H2 ⟨o2, hp2, cs0, hC2, lc0, hcs0⟩
    -- the sorts wished
    refine ⟨_, rfl, by show 4 ≤ sizeLine; decide, fun u nu => ?_⟩
    have t3 := same_new (o := .lst [.int 0, .int 0, .int 1, .int 2]) nu
    have hu3 : upd H2 u (.lst [.int 0, .int 0, .int 1, .int 2]) u = some (.lst [.int 0, .int 0, .int 1, .int 2]) := upd_same
    have nup := hp2.ne nu
    have hp3 := hp2.same t3
    have o3 := o2.trans (Same.off t3)
    have hC3 := t3 _ _ hC2
    generalize upd H2 u (.lst [.int 0, .int 0, .int 1, .int 2]) = H3 at t3 hu3 hp3 o3 hC3 ⊢
    refine ⟨p, u, _, _, rfl, hp3, by omega, hu3, nup, (by show 1 ≤ 4; decide), (by show 4 ≤ 1000; decide), fun x H4 hx hp4 o34 => ?_⟩
    obtain ⟨wn, rfl, wn2⟩ : ∃ wn : Nat, x = .int (wn : Int) ∧ wn ≤ 2 := by
      have hx2 : x = .int 0 ∨ x = .int 1 ∨ x = .int 2 := by simpa using hx
      rcases hx2 with rfl | rfl | rfl
      · exact ⟨0, rfl, by decide⟩
      · exact ⟨1, rfl, by decide⟩
      · exact ⟨2, rfl, by decide⟩
    have o4 := o3.trans o34
    have hC4 := o34 _ _ hC3 nCp
    refine ⟨(wn : Int), rfl, by omega, by omega, fun W nW => ?_⟩
    have nWp := hp4.ne nW
    have em : ((wn : Int)).toNat = wn := Int.toNat_natCast wn
    rw [em]
    have W0 : H W = none := o4.free hp4 nW
    have nWC : W ≠ C := (ne_of_none hC4 nW).symm
    refine lc_range (lo := 0) (n := wn) (fun j H' => Off p H H' ∧ SrcAt H' p (n + 2 + m + j) ∧ H' C = some (.lst (cs0.map V.str)) ∧ ∃ es : List Str, H' W = some (.lst (es.map V.str)) ∧ es.length = j ∧ ∀ x ∈ es, x ∈ rows.map (·.1)) ⟨o4.upd0 W0, (hp4.same (same_new nW)).mono (by omega), by rw [upd_ne (fun z => nWC z.symm)]; exact hC4, [], upd_same, rfl, fun _ z => nomatch z⟩ ?_ ?_
    · rintro j H12 hj ⟨o12, hp12, hC12, es, hD12, le, hes⟩
      refine ⟨rfl, ?_⟩
      show tOp (rIxT K) (tCall spOne [] E0 (tCons (tVar 0) (tCons (tVar 1) tNil))) (tC (.int 0)) _ _ _
      obtain ⟨xs12, hx12, lx12, ra12⟩ := dt_list (ds.off hp (noInt_rows rows) o12)
      have lenx : xs12.length = rows.length := by rw [ra12.len, List.length_map]
      refine ⟨_, rfl, _, rfl, p, ls, xs12, _, rfl, hp12, by omega, hx12, nls, by omega, by omega, fun y H13 hy hp13 o13 => ?_⟩
      obtain ⟨q, r, hr_, rfl, tq⟩ := row_mem ra12 hy
      refine ⟨q, _, 0, _, rfl, rfl, (tq.off o13 (TupAt.src hp12 tq)).sq, ix0, ?_⟩
      have hD13 := o13 _ _ hD12 nWp
      refine ⟨_, hD13, ?_, (o12.trans o13).upd0 W0, ((hp13.upd nWp).mono (by omega)), by rw [upd_ne (fun z => nWC z.symm)]; exact o13 _ _ hC12 nCp, es ++ [r.1], ?_, ?_, ?_⟩
      · rw [List.length_map]
        exact small1000 (by omega)
      · rw [upd_same, List.map_append]
        rfl
      · rw [List.length_append, le]
        rfl
      · intro x hx
        rcases List.mem_append.mp hx with h | h
        · exact hes x h
        · rw [List.mem_singleton.mp h]
          exact List.mem_map_of_mem (f := (·.1)) hr_
    rintro H5 ⟨o5, hp5, hC5, wl0, hW5, lw0, hwl0⟩
    -- the names
    refine ⟨_, rfl, _, rfl, p, 6, _, rfl, hp5, by omega, by decide, fun l0 nms H6 l6 hnm l00 hl0 hp6 o56 => ?_⟩
    have o6 := o5.trans o56
    have nl0p := hp5.ne l00
    have hC6 := o56 _ _ hC5 nCp
    have hW6 := o56 _ _ hW5 nWp
    have dn : DtAll (del H6 p) (nms.map V.str) (nms.map PyData.str) := DtAll.strs nms fun x hx => okS_name (hnm.nm x hx).1
    refine ⟨p, l0, _, nms.map V.str, nms.map PyData.str, rfl, hp6, by omega, hl0, nl0p, dn, fun d hd => by obtain ⟨x, _, rfl⟩ := List.mem_map.mp hd; exact ⟨rfl, Nat.zero_le _⟩, by rw [List.length_map]; omega, fun NHa ys H7 nNH pmN hNH hp7 o67 => ?_⟩
    have o7 := o6.trans o67
    have hC7 := o67 _ _ hC6 nCp
    have hW7 := o67 _ _ hW6 nWp
    have nNHp := hp6.ne nNH
    obtain ⟨nm2, pm2, eqN⟩ : ∃ nm2 : List Str, nm2.Perm nms ∧ ys = nm2.map V.str := by
      have pr0 : ∀ l : List Str, Paired (fun (v : V) (s : Str) => v = .str s) (l.map V.str) l := fun l => by
        induction l with
        | nil => exact .nil
        | cons a l ih => exact .cons rfl ih
      obtain ⟨bs, pb, qb⟩ := paired_perm pmN (pr0 nms)
      refine ⟨bs, pb, ?_⟩
      clear pmN hNH pb
      induction qb with
      | nil => rfl
      | cons h _ ih => rw [h, ih]; rfl
    subst eqN
    have l62 : nm2.length = 6 := by rw [pm2.length_eq]; exact l6
    have nmD : nm2.Nodup := pm2.nodup_iff.mpr hnm.nd
    have nmN : ∀ x ∈ nm2, nameS x = true ∧ okw x = true := fun x hx => hnm.nm x (pm2.mem_iff.mp hx)
    have hp7 := hp7.mono (show n + 2 + m + wn + 100 + (nms.map V.str).length ≤ n + 300 by rw [List.length_map]; omega)
    clear hp6 hp5 hp4 hp3 hp2 hp1 hC6 hC5 hC4 hC3 hC2 hW6 hW5 hl0 dn
    let WI : Nat → L2.St → Hp → Prop := fun mm σ H' => ∃ (y5 y8 y9 y10 : Option V) (C W : Addr) (cs wl : List Str), σ = [some (.ref p), some (.ref ls), some (.ref lk), some (.int (most : Int)), some (.ref C), y5, some (.ref W), some (.ref NHa), y8, y9, y10] ∧ Same H7 H' ∧ H' C = some (.lst (cs.map V.str)) ∧ H' W = some (.lst (wl.map V.str)) ∧ cs.length ≤ most ∧ (∀ x ∈ cs, x ∈ ks.map (·.1)) ∧ wl.length ≤ 2 ∧ (∀ x ∈ wl, x ∈ rows.map (·.1)) ∧ mm = cs.length + wl.length
    refine ⟨WI, ⟨_, _, _, _, _, C, W, cs0, wl0, rfl, Same.refl _, hC7, hW7, by omega, hcs0, by omega, hwl0, rfl⟩, ?_⟩
    rintro mm σ H8 ⟨y5, y8, y9, y10, C, W, cs, wl, rfl, s8, hC8, hW8, lcs, hcs, lwl, hwl, rfl⟩
    refine ⟨_, rfl, ?_⟩
    dsimp only
    rw [if_pos rfl]
    refine ⟨fun σ' H' => ∃ m', m' < cs.length + wl.length ∧ WI m' σ' H', fun σ' H' q => q, ?_⟩
    have lcs6 : cs.length ≤ 6 := by omega
    have nmW : ∀ x ∈ wl, nameS x = true := fun x hx => by
      obtain ⟨r, hr_, e⟩ := List.mem_map.mp (hwl x hx)
      rw [← e]
      exact (gnm r hr_).1
    have o8 : Off p H H8 := o7.trans (Same.off s8)
    have hw8 := o8 _ _ hw nlk
    have kn8 := knds_off hp kn o8
    have ds8 := ds.off hp (noInt_rows rows) o8
    -- what they lack
    refine ⟨_, rfl, _, rfl, _, rfl, _, rfl, _, rfl, W, rfl, ⟨_, SqL.of hW8⟩, fun D1 nD1 => ?_⟩
    refine lc_it (walk_list (K := K) (a := W) (xs := wl.map V.str)) (fun i H' => Same H8 (del H' D1) ∧ ∃ xs, H' D1 = some (.lst xs) ∧ DtAll (del H' D1) xs ((wl.take i).map fun s => rowT (("" : Str), s))) ⟨same_del' nD1, [], upd_same, .nil⟩ (fun i H' _ h => SqL.of (del_sub _ _ (h.1 _ _ hW8))) ?_ ?_
    · rintro i x H50 H9 hi ⟨s9, xs9, hD9, dv9⟩ ⟨rfl, hx5⟩
      obtain ⟨z, hz, rfl⟩ := map_str_at hx5
      refine ⟨rfl, ?_⟩
      delta tYes
      dsimp only
      rw [if_pos rfl]
      refine ⟨_, rfl, by show 2 ≤ sizeLine; decide, fun tq ntq => ?_⟩
      have ntD : tq ≠ D1 := (ne_of_none hD9 ntq).symm
      have t10 := same_new (o := .tup [.str ("" : Str), .str z]) ntq
      have htq : upd H9 tq (.tup [.str ("" : Str), .str z]) tq = some (.tup [.str ("" : Str), .str z]) := upd_same
      have hD10 := t10 _ _ hD9
      have s10 := s9.trans (same_del (l := D1) t10)
      have dv10 := dv9.same (same_del (l := D1) t10)
      show ∃ acc, _
      generalize upd H9 tq (.tup [.str ("" : Str), .str z]) = H10 at t10 htq hD10 s10 dv10 ⊢
      have lx := dv9.len
      rw [List.length_map, List.length_take] at lx
      have sd : Same (del H10 D1) (del (upd H10 D1 (.lst (xs9 ++ [.ref tq]))) D1) := del_upd_same
      refine ⟨xs9, hD10, small1000 (by omega), s10.trans sd, xs9 ++ [.ref tq], upd_same, ?_⟩
      rw [take_snoc hz, List.map_append]
      refine (dv10.same sd).app (.cons ?_ .nil)
      refine .tup (xs := [.str ("" : Str), .str z]) (.of ?_) (by show 2 ≤ 1000; decide) (.cons (.str _ emp_ok) (.cons (.str _ (okS_name (nmW z (List.mem_of_getElem? hz)))) .nil))
      rw [del_ne ntD, upd_ne ntD]
      exact htq
    rintro H9 ⟨s9, xs9, hD9, dv9⟩
    rw [List.length_map, List.take_of_length_le (Nat.le_refl _)] at dv9
    have s89 := s9.trans (del_sub (H := H9) (p := D1))
    have lx9 := dv9.len
    rw [List.length_map] at lx9
    have dg9 : Dt H9 (.ref D1) (.list ((wl.map fun s => (("" : Str), s)).map rowT)) := by
      rw [List.map_map]
      exact .lst hD9 (by omega) (dv9.same del_sub)
    refine ⟨lk, C, D1, ks, ws, cs, wl.map fun s => (("" : Str), s), rfl, s89 _ _ hw8, knds_same s89 kn8, gk.nd, k5, s89 _ _ hC8, lcs6, hcs, dg9, by rw [List.length_map]; omega, fun q1 H10 vs1 nq1 s10 hq1 ev1 => ?_⟩
    have eAS := allE_sorts ks cs (wl.map fun s => (("" : Str), s))
    have len36 := sortsE_len (ks := ks) (cs := cs) (lg := wl.map fun s => (("" : Str), s)) k5 lcs6 (by rw [List.length_map]; omega)
    have s810 := s89.trans s10
    refine ⟨ls, q1, rows, allE ks cs (wl.map fun s => (("" : Str), s)), vs1, rfl, ds8.same s810, g3, hq1, ev1, by rw [← eAS, List.length_map] at len36; omega, fun lq H11 nlq s11 hlq => ?_⟩
    rw [eAS] at hlq
    have s811 := s810.trans s11
    have lwant := wantL_len (xs := sortsE ks cs (wl.map fun s => (("" : Str), s))) (by omega) rows
    refine ⟨W, lq, _, _, rfl, rfl, s811 _ _ hW8, hlq, by rw [List.length_map, List.length_map, sizeLine_eq]; omega, fun LSa nLS => ?_⟩
    rw [← List.map_append]
    have wmem : ∀ x ∈ wl ++ wantL rows (sortsE ks cs (wl.map fun s => (("" : Str), s))), x ∈ rows.map (·.1) := fun x hx => by
      rcases List.mem_append.mp hx with y | y
      · exact hwl x y
      · unfold wantL at y
        obtain ⟨r, hr_, y⟩ := List.mem_flatMap.mp y
        unfold wantR at y
        split at y
        · rw [List.eq_of_mem_replicate y]
          exact List.mem_map_of_mem (f := (·.1)) hr_
        · rw [List.eq_of_mem_replicate y]
          exact List.mem_map_of_mem (f := (·.1)) (mu.mt _ hr_)
    have lLS : (wl ++ wantL rows (sortsE ks cs (wl.map fun s => (("" : Str), s)))).length ≤ 200 := by
      rw [List.length_append]
      omega
    have hbal : ∀ lg : Rows2, (lg.map (·.2)).Perm (wl ++ wantL rows (sortsE ks cs (wl.map fun s => (("" : Str), s)))) → Bal rows (sortsE ks cs lg) := fun lg h => leg_bal mu h
    have hnil : cs.length + wl.length = 0 → (wl ++ wantL rows (sortsE ks cs (wl.map fun s => (("" : Str), s)))).length = 0 := fun h => by
      have c0 : cs = [] := List.eq_nil_of_length_eq_zero (by omega)
      have w0 : wl = [] := List.eq_nil_of_length_eq_zero (by omega)
      subst c0 w0
      have z : ∀ l : Rows2, wantL l [] = [] := fun l => by
        induction l with
        | nil => rfl
        | cons r l ih =>
          show wantR [] r ++ wantL l [] = []
          rw [ih]
          unfold wantR
          split <;> rfl
      show ([] ++ wantL rows []).length = 0
      rw [z]
      rfl
    generalize wl ++ wantL rows (sortsE ks cs (wl.map fun s => (("" : Str), s))) = LL at wmem lLS hbal hnil ⊢
    have t12 := same_new (o := .lst (LL.map V.str)) nLS
    have hLS : upd H11 LSa (.lst (LL.map V.str)) LSa = some (.lst (LL.map V.str)) := upd_same
    have s812 := s811.trans t12
    generalize upd H11 LSa (.lst (LL.map V.str)) = H12 at t12 hLS s812 ⊢
    have hC12 := s812 _ _ hC8
    have hNH12 := (s8.trans s812) _ _ hNH
    have o12 := o8.trans (Same.off s812)
    have hp12 := (hp7.same s8).same s812
    clear hlq s811 s11 s810 s10 ev1 hq1 dg9 dv9 s9 hD9 s89
    refine ⟨_, rfl, LSa, _, rfl, .inl (SqL.of hLS), _, _, rfl, rfl, _, rfl, ite2 (fun c6 => ?_) (fun c6 => ?_)⟩
    · have l6' : LL.length ≤ 6 := by
        rw [List.length_map] at c6
        have q := of_decide_eq_true c6
        omega
      -- the legs
      refine ⟨_, rfl, LSa, _, rfl, .inl (SqL.of hLS), _, rfl, by rw [List.length_map]; omega, by rw [List.length_map]; omega, fun D2 nD2 => ?_⟩
      have em : (((LL.map V.str).length : Nat) : Int).toNat = LL.length := by rw [List.length_map]; exact Int.toNat_natCast _
      rw [em]
      refine lc_range (lo := 0) (n := LL.length) (fun i H' => Same H12 (del H' D2) ∧ ∃ xs, H' D2 = some (.lst xs) ∧ DtAll (del H' D2) xs (((nm2.zip LL).take i).map rowT)) ⟨same_del' nD2, [], upd_same, .nil⟩ ?_ ?_
      · rintro i H13 hi ⟨s13, xs13, hD13, dv13⟩
        have s13' := s13.trans (del_sub (H := H13) (p := D2))
        obtain ⟨x, hx⟩ : ∃ x, nm2[i]? = some x := ⟨_, List.getElem?_eq_getElem (by omega)⟩
        obtain ⟨y, hy⟩ : ∃ y, LL[i]? = some y := ⟨_, List.getElem?_eq_getElem hi⟩
        refine ⟨rfl, ?_⟩
        delta tYes
        dsimp only
        rw [if_pos rfl]
        have hx2 : (nm2.map V.str)[i]? = some (.str x) := by rw [List.getElem?_map, hx]; rfl
        have hy2 : (LL.map V.str)[i]? = some (.str y) := by rw [List.getElem?_map, hy]; rfl
        refine ⟨_, rfl, _, rfl, NHa, _, _, .str x, rfl, rfl, SqL.of (s13' _ _ hNH12), at_of (by omega) hx2, _, rfl, _, rfl, LSa, _, _, .str y, rfl, rfl, SqL.of (s13' _ _ hLS), at_of (by omega) hy2, by show 2 ≤ sizeLine; decide, fun tq ntq => ?_⟩
        have ntD : tq ≠ D2 := (ne_of_none hD13 ntq).symm
        have t14 := same_new (o := .tup [.str x, .str y]) ntq
        have htq : upd H13 tq (.tup [.str x, .str y]) tq = some (.tup [.str x, .str y]) := upd_same
        have hD14 := t14 _ _ hD13
        have s14 := s13.trans (same_del (l := D2) t14)
        have dv14 := dv13.same (same_del (l := D2) t14)
        show ∃ acc, _
        generalize upd H13 tq (.tup [.str x, .str y]) = H14 at t14 htq hD14 s14 dv14 ⊢
        have lx := dv13.len
        rw [List.length_map, List.length_take] at lx
        have sd : Same (del H14 D2) (del (upd H14 D2 (.lst (xs13 ++ [.ref tq]))) D2) := del_upd_same
        refine ⟨xs13, hD14, small1000 (by omega), s14.trans sd, xs13 ++ [.ref tq], upd_same, ?_⟩
        rw [zipR_snoc nm2 LL hx hy, List.map_append]
        refine (dv14.same sd).app (.cons ?_ .nil)
        obtain ⟨r, hr_, er⟩ := List.mem_map.mp (wmem y (List.mem_of_getElem? hy))
        refine dt_row (nmN x (List.mem_of_getElem? hx)).1 (by rw [← er]; exact (gnm r hr_).1) ?_
        rw [del_ne ntD, upd_ne ntD]
        exact htq
      rintro H13 ⟨s13, xs13, hD13, dv13⟩
      have lz : (nm2.zip LL).length = LL.length := by rw [List.length_zip]; omega
      rw [List.take_of_length_le (by omega)] at dv13
      have s13' := s13.trans (del_sub (H := H13) (p := D2))
      have lx := dv13.len
      rw [List.length_map] at lx
      have d13 : Dt H13 (.ref D2) (.list ((nm2.zip LL).map rowT)) := .lst hD13 (by omega) (dv13.same del_sub)
      delta tNil
      try dsimp only
      refine sort_ok d13 (fun d hd => by obtain ⟨g, _, rfl⟩ := List.mem_map.mp hd; exact ⟨(low_rowT g).1, (low_rowT g).2⟩) (alike_rows _) (sortable_rows _) fun pg H14 dpg s14 => ?_
      rw [sortD_R] at dpg
      have s1214 := s13'.trans s14
      have pmz := sortR_perm (nm2.zip LL)
      have LG : LegsG rows (sortR (nm2.zip LL)) := by
        refine ⟨by rw [pmz.length_eq, lz]; exact l6', ?_, ?_, ?_, ?_⟩
        · rw [(pmz.map _).nodup_iff, zip_fst_take]
          exact nmD.sublist (List.take_sublist _ _)
        · intro g hg
          exact (nmN g.1 (List.of_mem_zip (pmz.mem_iff.mp hg)).1).1
        · intro g hg
          exact wmem g.2 (List.of_mem_zip (pmz.mem_iff.mp hg)).2
        · exact sortR_pw _
      have okl : ∀ g ∈ sortR (nm2.zip LL), okw g.1 = true := fun g hg => (nmN g.1 (List.of_mem_zip (pmz.mem_iff.mp hg)).1).2
      have pm2z : ((sortR (nm2.zip LL)).map (·.2)).Perm LL := by
        have q := pmz.map (fun g : Str × Str => g.2)
        rw [show (nm2.zip LL).map (·.2) = LL from List.map_snd_zip (by omega)] at q
        exact q
      have bal := hbal _ pm2z
      generalize sortR (nm2.zip LL) = lg at dpg LG okl bal
      have hC14 := s1214 _ _ hC12
      have o14 := o12.trans (Same.off s1214)
      have hw14 := o14 _ _ hw nlk
      have kn14 := knds_off hp kn o14
      have ds14 := ds.off hp (noInt_rows rows) o14
      have hp14 := hp12.same s1214
      refine ⟨_, rfl, _, rfl, _, rfl, _, rfl, _, rfl, _, rfl, _, rfl, lk, C, pg, ks, ws, cs, lg, rfl, hw14, kn14, gk.nd, k5, hC14, lcs6, hcs, dpg, LG.l6, fun q2 H15 vs2 nq2 s15 hq2 ev2 => ?_⟩
      have memE := sortsE_mem (rows := rows) gk hcs LG.so
      have eA2 := allE_sorts ks cs lg
      have len2 := sortsE_len (ks := ks) (cs := cs) (lg := lg) k5 lcs6 LG.l6
      have memA : ∀ e ∈ allE ks cs lg, e.2 ∈ rows.map (·.1) := fun e he => memE _ (by rw [← eA2]; exact List.mem_map_of_mem (f := fun e : End => e.2) he)
      refine ⟨p, ls, q2, _, rows, allE ks cs lg, vs2, rfl, hp14.same s15, by omega, ds14.same s15, g3, mu, gnm, hq2, ev2, by rw [← eA2, List.length_map] at len2; omega, memA, by rw [eA2]; exact bal, fun u2 ws2 js H16 hu2 jv2 pmj gjj hp16 o16 => ?_⟩
      have hp15 := hp14.same s15
      refine ⟨by show 3 ≤ sizeLine; decide, fun t nt => ?_⟩
      have t17 := same_new (o := .tup [.ref C, .ref pg, .ref u2]) nt
      have hC16 := o16 _ _ (s15 _ _ hC14) (strs_src hp15 (s15 _ _ hC14))
      have dg16 := (dpg.same s15).off hp15 (noInt_rows lg) o16
      exact k t C pg u2 cs lg ws2 js _ lcs ⟨hcs, LG, okl, t17 _ _ hC16, dg16.same t17, t17 _ _ hu2, jv2.same t17, pmj, gjj, bal⟩ (.of upd_same) ((hp16.same t17).mono (by omega)) ((o14.trans (Same.off s15)).trans (o16.trans (Same.off t17)))
    · have l7 : 6 < LL.length := by
        rw [List.length_map] at c6
        by_cases z : 6 < LL.length
        · exact z
        · exfalso
          apply c6
          exact decide_eq_true (by omega)
      refine ⟨_, rfl, 1, rfl, (-1 : Int), rfl, C, _, rfl, SqL.of hC12, fun C2 nC2 => ?_⟩
      rw [cut_last]
      have t13 := same_new (o := .lst ((cs.take (cs.length - 1)).map V.str)) nC2
      have hC2 : upd H12 C2 (.lst ((cs.take (cs.length - 1)).map V.str)) C2 = some (.lst ((cs.take (cs.length - 1)).map V.str)) := upd_same
      generalize upd H12 C2 (.lst ((cs.take (cs.length - 1)).map V.str)) = H13 at t13 hC2 ⊢
      refine ⟨Nat.zero_le _, fun W2 nW2 => ?_⟩
      have t14 := same_new (o := .lst []) nW2
      refine ⟨(cs.take (cs.length - 1)).length + ([] : List Str).length, ?_, _, _, _, _, C2, W2, cs.take (cs.length - 1), [], rfl, (s8.trans s812).trans (t13.trans t14), t14 _ _ hC2, upd_same, by rw [List.length_take]; omega, fun x hx => hcs x (List.mem_of_mem_take hx), Nat.zero_le _, (fun _ z => nomatch z), rfl⟩
      have pos : cs.length + wl.length ≠ 0 := fun z => by
        have := hnil z
        omega
      rw [List.length_take, List.length_nil]
      by_cases c0 : cs.length = 0
      · omega
      · omega
end
end Toy
set_option Elab.async false
set_option linter.all false
set_option maxRecDepth 100000
set_option maxHeartbeats 4000000
namespace Toy
open PySem PySem.Spec PyProof.Rows L2
/-- a drawing in the heap, its fields by data -/
structure DrAt (C D : Addr) (H : Hp) (x : Addr) (ss ks d1 d2 d3 : List PyData) : Prop where
  ob : ∃ dx a l1 l2 l3, H x = some (.ins D dx (df a l1 l2 l3)) ∧ StkAt C H a ss ks ∧ Dt H (.ref l1) (.list d1) ∧ Dt H (.ref l2) (.list d2) ∧ Dt H (.ref l3) (.list d3)
  w1 : Low 20 (.list d1)
  w2 : Low 20 (.list d2)
  w3 : Low 20 (.list d3)
theorem DrAt.same {C D : Addr} {H H' : Hp} {x : Addr} {ss ks d1 d2 d3 : List PyData} (d : DrAt C D H x ss ks d1 d2 d3) (s : Same H H') : DrAt C D H' x ss ks d1 d2 d3 := by
  obtain ⟨⟨dx, a, l1, l2, l3, e, sa, b1, b2, b3⟩, w1, w2, w3⟩ := d
  exact ⟨⟨dx, a, l1, l2, l3, s _ _ e, sa.same s, b1.same s, b2.same s, b3.same s⟩, w1, w2, w3⟩
def eqB5 (ss ks d1 d2 d3 ss' ks' e1 e2 e3 : List PyData) : Bool := (PyData.eqv (.list ss) (.list ss') && PyData.eqv (.list ks) (.list ks')) && (PyData.eqv (.list d1) (.list e1) && (PyData.eqv (.list d2) (.list e2) && PyData.eqv (.list d3) (.list e3)))
def spDEqG (K : PySem.W.Frag) (C D : Addr) : Sp := fun vs H Q _ => ∃ (x : Addr) (y : V) (ss ks d1 d2 d3 : List PyData), vs = [.ref x, y] ∧ DrAt C D H x ss ks d1 d2 d3 ∧
  ((∃ (z : Addr) (ss' ks' e1 e2 e3 : List PyData), y = .ref z ∧ DrAt C D H z ss' ks' e1 e2 e3 ∧ Q (.bl (eqB5 ss ks d1 d2 d3 ss' ks' e1 e2 e3)) H) ∨
   ∃ t, TyX K H y t ∧ PySem.W.kitOne K t (.ref D) = some false ∧ Q (.bl false) H)
theorem eqD_gen {K : PySem.W.Frag} {H : Hp} {Q : VK} {x y : V} {d1 d2 : PyData} (h1 : Dt H x d1) (h2 : Dt H y d2) (l1 : Low 20 d1) (l2 : Low 20 d2) (q : Q (.bl (PyData.eqv d1 d2)) H) : rEqD K x y H Q :=
  ⟨d1, d2, h1.dp l1.nd, h2.dp l2.nd, shape_of h1 l1, shape_of h2 l2, q⟩
section
variable {P : Program} {w : World} {K : PySem.W.Frag} {mg : Str → Option Value} {base : Heap}
theorem ok_dEqG {f fE fX C CN D : Addr} {fd fdE : FuncData} (F : Fun K "__eq__" "Drawing.__eq__" sDEq f fd) (M : Mods mg) (T : StkC K mg C CN fX) (TD : DrC K mg D) (TE : DrE K D) (EQ : EqC K C fE) (nf : PySem.W.notFirst K C (.ref C) = true)
    (GE : FnOk P w K mg base CX0 1 fE fdE ["self", "other"] (spSEq K C)) (bE : Binds K fdE ["self", "other"] []) :
    FnOk P w K mg base CX0 2 f fd ["self", "other"] (spDEqG K C D) := by
  refine F.ok scDEq (fun vs H Q E h => ?_) (fun cdv A outer s H vs Q E hr h => ?_)
  · obtain ⟨x, y, ss, ks, d1, d2, d3, rfl, _⟩ := h
    rfl
  · obtain ⟨x, y, ss, ks, d1, d2, d3, rfl, dr, k⟩ := h
    refine ⟨_, pss_one (ps_ret (pe_and (pe_callB call_isi (by rfl) M.isi (by decide +kernel) (pa_cons (pv 1) (pa_cons (pe_gref (by rfl) TD.mgD) pa_nil)))
      (pe_and (pe_cmpR (op_eqO EQ GE hr bE pass0) (pe_fld (pv 0) rfl) (pe_fld (pv 1) rfl) (nomark _))
      (pe_and (pe_cmpR (op_eqD hr.units) (pe_fld (pv 0) rfl) (pe_fld (pv 1) rfl) (nomark _))
      (pe_and (pe_cmpR (op_eqD hr.units) (pe_fld (pv 0) rfl) (pe_fld (pv 1) rfl) (nomark _)) (pe_one (pe_cmpR (op_eqD hr.units) (pe_fld (pv 0) rfl) (pe_fld (pv 1) rfl) (nomark _)))))))), ?_⟩
    rcases k with ⟨y, ss', ks', e1, e2, e3, rfl, dr', k⟩ | ⟨t, ty, kt, k⟩
    · obtain ⟨⟨dx, a, l1, l2, l3, hx, sa, b1, b2, b3⟩, w1, w2, w3⟩ := dr
      obtain ⟨⟨dy, a', m1, m2, m3, hy, sa', c1, c2, c3⟩, v1, v2, v3⟩ := dr'
      have ty : TyX K H (.ref y) (.ref D) := .base (.ins hy TD.cl TE.ca TE.cg TE.ct TE.cm)
      refine ⟨_, rfl, _, _, _, _, true, rfl, .own D, ty, TE.kC, _, rfl, ?_⟩
      obtain ⟨⟨da, l, m, ea, h1, h2⟩, f1, f2⟩ := id sa
      refine ⟨_, rfl, x, D, dx, _, _, rfl, hx, TD.cl, TD.nS, df_stock _ _ _ _, _, rfl, y, D, dy, _, _, rfl, hy, TD.cl, TD.nS, df_stock _ _ _ _, a, da, _, .ref C, rfl, ea, stk_ty T sa', nf, a, .ref a', ss, ks, rfl, sa, .inl ⟨a', ss', ks', rfl, sa', ?_⟩⟩
      unfold eqB5 at k
      refine ⟨_, rfl, ?_⟩
      show ∃ c, V.bl (PyData.eqv (.list ss) (.list ss') && PyData.eqv (.list ks) (.list ks')) = V.bl c ∧ _
      generalize (PyData.eqv (.list ss) (.list ss') && PyData.eqv (.list ks) (.list ks')) = bb at k ⊢
      cases bb with
      | false => exact ⟨_, rfl, k⟩
      | true =>
        rw [Bool.true_and] at k
        refine ⟨_, rfl, ?_⟩
        refine ⟨_, rfl, x, D, dx, _, _, rfl, hx, TD.cl, TD.nC, df_corners _ _ _ _, _, rfl, y, D, dy, _, _, rfl, hy, TD.cl, TD.nC, df_corners _ _ _ _, eqD_gen b1 c1 w1 v1 ?_⟩
        generalize PyData.eqv (.list d1) (.list e1) = bb at k ⊢
        cases bb with
        | false => exact ⟨_, rfl, k⟩
        | true =>
          rw [Bool.true_and] at k
          refine ⟨_, rfl, ?_⟩
          refine ⟨_, rfl, x, D, dx, _, _, rfl, hx, TD.cl, TD.nL, df_legs _ _ _ _, _, rfl, y, D, dy, _, _, rfl, hy, TD.cl, TD.nL, df_legs _ _ _ _, eqD_gen b2 c2 w2 v2 ?_⟩
          generalize PyData.eqv (.list d2) (.list e2) = bb at k ⊢
          cases bb with
          | false => exact ⟨_, rfl, k⟩
          | true =>
            rw [Bool.true_and] at k
            refine ⟨_, rfl, ?_⟩
            exact ⟨_, rfl, x, D, dx, _, _, rfl, hx, TD.cl, TD.nJ, df_joins _ _ _ _, _, rfl, y, D, dy, _, _, rfl, hy, TD.cl, TD.nJ, df_joins _ _ _ _, eqD_gen b3 c3 w3 v3 k⟩
    · exact ⟨_, rfl, _, _, _, _, false, rfl, .own D, ty, kt, _, rfl, k⟩
end
/-- a drawing just made -/
structure DrNew (D : Addr) (H0 H : Hp) (x a : Addr) (cs : List Str) (gs ws : List V) : Prop where
  ob : ∃ dx l1 l2 l3, H0 x = none ∧ H0 l1 = none ∧ H0 l2 = none ∧ H0 l3 = none ∧ H x = some (.ins D dx (df a l1 l2 l3)) ∧ H l1 = some (.lst (cs.map V.str)) ∧ H l2 = some (.lst gs) ∧ H l3 = some (.lst ws)
theorem DrNew.same {D : Addr} {H0 H H' : Hp} {x a : Addr} {cs : List Str} {gs ws : List V} (d : DrNew D H0 H x a cs gs ws) (s : Same H H') : DrNew D H0 H' x a cs gs ws := by
  obtain ⟨dx, l1, l2, l3, n0, n1, n2, n3, e0, e1, e2, e3⟩ := d
  exact ⟨dx, l1, l2, l3, n0, n1, n2, n3, s _ _ e0, s _ _ e1, s _ _ e2, s _ _ e3⟩
theorem DrNew.offs {D : Addr} {A : List Addr} {H0 H H' : Hp} {x a : Addr} {cs : List Str} {gs ws : List V} (d : DrNew D H0 H x a cs gs ws) (o : ∀ b u, H b = some u → b ∉ A → H' b = some u) (nA : ∀ b, H0 b = none → b ∉ A) : DrNew D H0 H' x a cs gs ws := by
  obtain ⟨dx, l1, l2, l3, n0, n1, n2, n3, e0, e1, e2, e3⟩ := d
  exact ⟨dx, l1, l2, l3, n0, n1, n2, n3, o _ _ e0 (nA _ n0), o _ _ e1 (nA _ n1), o _ _ e2 (nA _ n2), o _ _ e3 (nA _ n3)⟩
theorem DrNew.dr {C D : Addr} {H0 H : Hp} {x a : Addr} {cs : List Str} {gs ws : List V} {rows : Rows2} {ks : List KRow} {lg : Rows2} {js : List JRow} (d : DrNew D H0 H x a cs gs ws) (sg : StkP C H a rows ks) (c6 : cs.length ≤ 6) (ncs : ∀ x ∈ cs, nameS x = true)
    (rg : DtAll H gs (lg.map rowT)) (lgs : gs.length ≤ 1000) (jv : JoinsAt H ws js) (gj : ∀ j ∈ js, GoodJ rows j) (lw : ws.length ≤ 1000) : DrAt C D H x (rows.map rowT) (ks.map kindT) (cs.map .str) (lg.map rowT) (js.map joinT) := by
  obtain ⟨dx, l1, l2, l3, n0, n1, n2, n3, e0, e1, e2, e3⟩ := d
  exact ⟨⟨dx, a, l1, l2, l3, e0, sg.g.at_, dt_lstrs e1 (by omega) ncs, .lst e2 lgs rg, .lst e3 lw (jv.dt gj)⟩, low_strs cs, low_rows lg, low_joins js⟩
theorem make_drw {C D x dx a c g l : Addr} {H : Hp} {R : VK} {E : XK} {rows : Rows2} {ks : List KRow} {cs : List Str} {lg : Rows2} {gs ws : List V} {js : List JRow} (nx : H x = none) (ndx : H dx = none) (ne : dx ≠ x) (DI : DrawIn C H a c g l rows ks cs lg gs ws js)
    (q : ∀ H', DrNew D H H' x a cs gs ws → Same H H' → R .non H') : spDInit C D [.ref x, .ref a, .ref c, .ref g, .ref l] (upd (upd H dx (.own x)) x (.ins D dx [])) R E := by
  have u1 := same_new (o := .own x) ndx
  have nx2 : upd H dx (.own x) x = none := by rw [upd_ne (fun z => ne z.symm)]; exact nx
  have u2 := same_new (o := .ins D dx []) nx2
  have sH := u1.trans u2
  refine ⟨x, dx, a, c, g, l, rows, ks, cs, lg, gs, ws, js, rfl, upd_same, ⟨DI.sg.same sH, DI.k5, sH _ _ DI.hc, DI.l6, DI.hcs, DI.ncs, sH _ _ DI.hg, DI.dg.same sH, DI.lok, DI.lg6, DI.nam, sH _ _ DI.hl, DI.lw, DI.ja.same sH, DI.gj, DI.srt, DI.srt2⟩, fun l1 l2 l3 H' n1 n2 n3 n12 n13 n23 e0 el1 el2 el3 off => ?_⟩
  have s67 : Same H H' := fun b o eb => off _ _ (sH _ _ eb) (ne_of_none eb nx)
  exact q H' ⟨dx, l1, l2, l3, nx, sH.free n1, sH.free n2, sH.free n3, e0, el1, el2, el3⟩ s67
/-- what is drawn makes a drawing -/
theorem Drawn.din {C : Addr} {H : Hp} {a c g u : Addr} {rows : Rows2} {ks : List KRow} {cs : List Str} {lg : Rows2} {ws gs : List V} {js : List JRow} (d : Drawn H rows ks c g u cs lg ws js) (gd : GoodS rows) (gk : GoodK (rows.map (·.1)) ks) (sg : StkP C H a rows ks) (c6 : cs.length ≤ 6)
    (hg : H g = some (.lst gs)) : DrawIn C H a c g u rows ks cs lg gs ws (sortJ js) := by
  obtain ⟨g1, g3, gnm, gnd, gmu⟩ := good_rows gd
  have rn : ∀ x ∈ rows.map (·.1), nameS x = true := fun x hx => by
    obtain ⟨r, hr_, e⟩ := List.mem_map.mp hx
    rw [← e]
    exact (gnm r hr_).1
  have k5 : ∀ kr ∈ ks, kr.2.length ≤ 5 := fun kr hk => (gk.en kr hk).2.1
  have ncs : ∀ x ∈ cs, nameS x = true := fun x hx => by
    obtain ⟨kr, hk, e⟩ := List.mem_map.mp (d.hcs x hx)
    rw [← e]
    exact gk.nm kr hk
  have memE := sortsE_mem (rows := rows) gk d.hcs d.LG.so
  have eAS := allE_sorts ks cs lg
  have len36 := sortsE_len (ks := ks) (cs := cs) (lg := lg) k5 c6 d.LG.l6
  have nam : ∀ e ∈ allE ks cs lg, nameS e.2 = true := fun e he => rn _ (memE _ (by rw [← eAS]; exact List.mem_map_of_mem (f := fun e : End => e.2) he))
  obtain ⟨h1, h2, h3⟩ := joins_make2 d.pm (all_sorted (lg := lg) gk d.hcs) d.gj
  have lw : ws.length ≤ 40 := by
    have z := d.jv.len
    rw [(sortJ_perm js).length_eq] at z
    have z2 := d.pm.length_eq
    rw [List.length_append, List.length_map, List.length_map] at z2
    rw [← eAS, List.length_map] at len36
    omega
  exact ⟨sg, k5, d.hc, c6, d.hcs, ncs, hg, d.dg, legs_ok d.LG rn, d.LG.l6, nam, d.hu, lw, d.jv, h1, h2, h3⟩
end Toy
set_option Elab.async false
set_option linter.all false
set_option maxRecDepth 100000
set_option maxHeartbeats 4000000
namespace Toy
open PySem PySem.Spec PyProof.Rows L2
/-! ### drawings compared -/
section
variable {K : PySem.W.Frag}
theorem dr_ty {C D : Addr} {TDm : Str → Option Value} {H : Hp} {x : Addr} {ss ks d1 d2 d3 : List PyData} (TD : DrC K TDm D) (TE : DrE K D) (d : DrAt C D H x ss ks d1 d2 d3) : TyX K H (.ref x) (.ref D) := by
  obtain ⟨⟨dx, a, l1, l2, l3, hx, _⟩, _, _, _⟩ := d
  exact .base (.ins hx TD.cl TE.ca TE.cg TE.ct TE.cm)
theorem eqDr {C D : Addr} {TDm : Str → Option Value} {neg : Bool} {H : Hp} {Q : VK} {x y : Addr} {ss ks d1 d2 d3 ss' ks' e1 e2 e3 : List PyData} (TD : DrC K TDm D) (TE : DrE K D) (hn : PySem.W.notFirst K D (.ref D) = true) (s1 : DrAt C D H x ss ks d1 d2 d3) (s2 : DrAt C D H y ss' ks' e1 e2 e3) (b c : Bool) (hc : (if neg = true then !b else b) = c)
    (hb : eqB5 ss ks d1 d2 d3 ss' ks' e1 e2 e3 = b) (q : Q (.bl c) H) : rEqO K D (spDEqG K C D) E0 neg (.ref x) (.ref y) H Q := by
  have ty := dr_ty TD TE s2
  obtain ⟨⟨dx, a, l1, l2, l3, hx, _⟩, _, _, _⟩ := id s1
  exact ⟨x, dx, _, _, rfl, hx, ty, hn, x, .ref y, ss, ks, d1, d2, d3, rfl, s1, .inl ⟨y, ss', ks', e1, e2, e3, rfl, s2, by rw [hb]; exact ⟨b, rfl, by rw [hc]; exact q⟩⟩⟩
theorem eqDrX {C D : Addr} {neg : Bool} {H : Hp} {Q : VK} {x : Addr} {v : V} {t : Value} {ss ks d1 d2 d3 : List PyData} (hn : PySem.W.notFirst K D t = true) (hk : PySem.W.kitOne K t (.ref D) = some false) (s1 : DrAt C D H x ss ks d1 d2 d3) (ty : TyX K H v t)
    (c : Bool) (hc : (if neg = true then !false else false) = c) (q : Q (.bl c) H) : rEqO K D (spDEqG K C D) E0 neg (.ref x) v H Q := by
  obtain ⟨⟨dx, a, l1, l2, l3, hx, _⟩, _, _, _⟩ := id s1
  exact ⟨x, dx, _, _, rfl, hx, ty, hn, x, v, ss, ks, d1, d2, d3, rfl, s1, .inr ⟨t, ty, hk, ⟨false, rfl, by rw [hc]; exact q⟩⟩⟩
end
theorem DrAt.eqv1 {C D : Addr} {H : Hp} {x : Addr} {ss ks d1 d2 d3 : List PyData} (d : DrAt C D H x ss ks d1 d2 d3) : PyData.eqv (.list ss) (.list ss) = true ∧ PyData.eqv (.list ks) (.list ks) = true ∧ PyData.eqv (.list d1) (.list d1) = true ∧ PyData.eqv (.list d2) (.list d2) = true ∧ PyData.eqv (.list d3) (.list d3) = true := by
  obtain ⟨⟨dx, a, l1, l2, l3, hx, ⟨⟨da, l, m, ea, h1, h2⟩, f1, f2⟩, b1, b2, b3⟩, w1, w2, w3⟩ := d
  exact ⟨flat_eqv h1 f1, flat_eqv h2 f2, PySem.SeqAt.eqv_refl _ (b1.can w1.nd), PySem.SeqAt.eqv_refl _ (b2.can w2.nd), PySem.SeqAt.eqv_refl _ (b3.can w3.nd)⟩
/-- equal but for the joins -/
theorem eqB5_joins {C D : Addr} {H : Hp} {x : Addr} {ss ks d1 d2 d3 : List PyData} (d : DrAt C D H x ss ks d1 d2 d3) (e3 : List PyData) : eqB5 ss ks d1 d2 d3 ss ks d1 d2 e3 = PyData.eqv (.list d3) (.list e3) := by
  obtain ⟨a, b, c, e, f⟩ := d.eqv1
  unfold eqB5
  rw [a, b, c, e]
  simp
theorem eqB5_self {C D : Addr} {H : Hp} {x : Addr} {ss ks d1 d2 d3 : List PyData} (d : DrAt C D H x ss ks d1 d2 d3) : eqB5 ss ks d1 d2 d3 ss ks d1 d2 d3 = true := by
  rw [eqB5_joins d, d.eqv1.2.2.2.2]
theorem eqB5_stock {C D : Addr} {H : Hp} {x : Addr} {ss ks d1 d2 d3 : List PyData} (d : DrAt C D H x ss ks d1 d2 d3) (e1 e2 e3 : List PyData) : eqB5 ss ks d1 d2 d3 ss ks e1 e2 e3 = PyData.eqv (.tuple [.list d1, .list d2, .list d3]) (.tuple [.list e1, .list e2, .list e3]) := by
  obtain ⟨a, b, _, _, _⟩ := d.eqv1
  unfold eqB5
  rw [a, b]
  show (true && true && _) = PyData.eqvAll [.list d1, .list d2, .list d3] [.list e1, .list e2, .list e3]
  show _ = (PyData.eqv (.list d1) (.list e1) && (PyData.eqv (.list d2) (.list e2) && (PyData.eqv (.list d3) (.list e3) && true)))
  simp
theorem eqB5_kinds {ss ks d1 d2 d3 ss' ks' e1 e2 e3 : List PyData} (h : PyData.eqv (.list ks) (.list ks') = false) : eqB5 ss ks d1 d2 d3 ss' ks' e1 e2 e3 = false := by
  unfold eqB5
  rw [h]
  simp
/-! ### the wider stock -/
theorem kind_eqv {k k' : KRow} (h : PyData.eqv (kindT k) (kindT k') = true) : k.1 = k'.1 := by
  have h2 : (PyData.eqv (.str k.1) (.str k'.1) && (PyData.eqv (.tuple (k.2.map .str)) (.tuple (k'.2.map .str)) && true)) = true := h
  rw [Bool.and_eq_true, eqvS, decide_eq_true_eq] at h2
  exact h2.1
theorem kinds_ne {z : KRow} : ∀ {ks ks' : List KRow}, (∀ k ∈ ks, k.1 ≠ z.1) → z ∈ ks' → PyData.eqvAll (ks.map kindT) (ks'.map kindT) = false
  | [], [], _, h => nomatch h
  | [], _ :: _, _, _ => rfl
  | _ :: _, [], _, h => nomatch h
  | k :: ks, k' :: ks', hn, h => by
    show (PyData.eqv (kindT k) (kindT k') && PyData.eqvAll (ks.map kindT) (ks'.map kindT)) = false
    rcases List.mem_cons.mp h with e | e
    · have q : PyData.eqv (kindT k) (kindT k') = false := by
        by_cases c : PyData.eqv (kindT k) (kindT k') = true
        · exact absurd (by rw [kind_eqv c, e]) (hn k List.mem_cons_self)
        · simpa using c
      rw [q]
      rfl
    · rw [kinds_ne (fun x hx => hn x (List.mem_cons_of_mem _ hx)) e]
      exact Bool.and_false _
theorem knd_dt {H : Hp} {v : V} {k : KRow} (h : KndP H v k) (n : nameS k.1 = true) (hx : ∀ x ∈ k.2, nameS x = true) (l : k.2.length ≤ 5) : Dt H v (kindT k) := by
  obtain ⟨q, t, rfl, tq, pl⟩ := h
  exact .tup (xs := [.str k.1, .ref t]) tq (by show 2 ≤ 1000; decide) (.cons (.str _ (okS_name n)) (.cons (dt_strs ⟨pl.rd⟩ (by omega) hx) .nil))
theorem knds_dt {H : Hp} : ∀ {ws : List V} {ks : List KRow}, Paired (KndP H) ws ks → (∀ k ∈ ks, nameS k.1 = true ∧ (∀ x ∈ k.2, nameS x = true) ∧ k.2.length ≤ 5) → DtAll H ws (ks.map kindT)
  | _, [], .nil, _ => .nil
  | _, k :: ks, .cons a t, h => .cons (knd_dt a (h k List.mem_cons_self).1 (h k List.mem_cons_self).2.1 (h k List.mem_cons_self).2.2) (knds_dt t fun x hx => h x (List.mem_cons_of_mem _ hx))
theorem paired_take {α β : Type} {F : α → β → Prop} : ∀ {xs : List α} {ys : List β} (n : Nat), Paired F xs ys → Paired F (xs.take n) (ys.take n)
  | _, _, 0, _ => .nil
  | _, _, n + 1, .nil => .nil
  | _, _, n + 1, .cons a t => .cons a (paired_take n t)
theorem paired_app {α β : Type} {F : α → β → Prop} : ∀ {xs zs : List α} {ys ws : List β}, Paired F xs ys → Paired F zs ws → Paired F (xs ++ zs) (ys ++ ws)
  | _, _, _, _, .nil, h => h
  | _, _, _, _, .cons a t, h => .cons a (paired_app t h)
def widK (ks : List KRow) (es : List Str) : List KRow := ks.take 3 ++ [(zzyS, es)]
theorem zzy_name : nameS zzyS = true := by decide +kernel
theorem okw_zzy {x : Str} (h : okw x = true) : x ≠ zzyS := by
  unfold okw at h
  simp only [Bool.and_eq_true, decide_eq_true_eq] at h
  exact h.1.2
theorem okw_strg {x : Str} (h : okw x = true) : x ≠ strgS := by
  unfold okw at h
  simp only [Bool.and_eq_true, decide_eq_true_eq] at h
  exact h.2
theorem wid_good {keys : List Str} {ks : List KRow} {k0 : KRow} (g : GoodK keys ks) (ok : ∀ k ∈ ks, okw k.1 = true) (h0 : k0 ∈ ks) : GoodK keys (widK ks k0.2) := by
  refine ⟨?_, fun k hk => ?_, fun k hk => ?_⟩
  · unfold widK
    rw [List.map_append, List.nodup_append]
    refine ⟨?_, by simp, fun a ha b hb => ?_⟩
    · rw [List.map_take]
      exact g.nd.sublist (List.take_sublist _ _)
    · obtain ⟨k, hk, e⟩ := List.mem_map.mp ha
      have hb2 : b = zzyS := by simpa using hb
      rw [hb2, ← e]
      exact okw_zzy (ok k (List.mem_of_mem_take hk))
  · unfold widK at hk
    rcases List.mem_append.mp hk with z | z
    · exact g.nm k (List.mem_of_mem_take z)
    · rw [List.mem_singleton.mp z]
      exact zzy_name
  · unfold widK at hk
    rcases List.mem_append.mp hk with z | z
    · exact g.en k (List.mem_of_mem_take z)
    · rw [List.mem_singleton.mp z]
      exact g.en k0 h0
theorem corn_same {ks ks' : List KRow} : ∀ {cs : List Str} {i : Nat}, (∀ c ∈ cs, kEnds ks' c = kEnds ks c) → cornE ks' i cs = cornE ks i cs
  | [], _, _ => rfl
  | c :: cs, i, h => by
    show (kEnds ks' c).map _ ++ cornE ks' (i + 1) cs = (kEnds ks c).map _ ++ cornE ks (i + 1) cs
    rw [h c List.mem_cons_self, corn_same fun x hx => h x (List.mem_cons_of_mem _ hx)]
theorem wid_ends {keys : List Str} {ks : List KRow} {k0 : KRow} (g : GoodK keys ks) (ok : ∀ k ∈ ks, okw k.1 = true) (h0 : k0 ∈ ks) {c : Str} (hc : c ∈ ks.map (·.1)) (hw : c ∈ (widK ks k0.2).map (·.1)) : kEnds (widK ks k0.2) c = kEnds ks c := by
  have gw := wid_good g ok h0
  obtain ⟨k, hk, e⟩ := List.mem_map.mp hw
  rw [← e, kEnds_of gw.nd hk]
  unfold widK at hk
  rcases List.mem_append.mp hk with z | z
  · rw [kEnds_of g.nd (List.mem_of_mem_take z)]
  · exfalso
    have e2 : k.1 = zzyS := by rw [List.mem_singleton.mp z]
    obtain ⟨k1, hk1, e3⟩ := List.mem_map.mp hc
    exact okw_zzy (ok k1 hk1) (by rw [e3, ← e, e2])
theorem DrawIn.wid {C : Addr} {H : Hp} {a a' c g u : Addr} {rows : Rows2} {ks : List KRow} {k0 : KRow} {cs : List Str} {lg : Rows2} {gs ws : List V} {js : List JRow} (d : DrawIn C H a c g u rows ks cs lg gs ws js) (gk : GoodK (rows.map (·.1)) ks) (ok : ∀ k ∈ ks, okw k.1 = true) (h0 : k0 ∈ ks)
    (sg : StkP C H a' rows (widK ks k0.2)) (hw : ∀ c ∈ cs, c ∈ (widK ks k0.2).map (·.1)) : DrawIn C H a' c g u rows (widK ks k0.2) cs lg gs ws js := by
  have gw := wid_good gk ok h0
  have e : allE (widK ks k0.2) cs lg = allE ks cs lg := by
    unfold allE
    rw [corn_same fun x hx => wid_ends gk ok h0 (d.hcs x hx) (hw x hx)]
  exact ⟨sg, fun kr hk => (gw.en kr hk).2.1, d.hc, d.l6, hw, d.ncs, d.hg, d.dg, d.lok, d.lg6, by rw [e]; exact d.nam, d.hl, d.lw, d.ja, d.gj, d.srt, by rw [e]; exact d.srt2⟩
theorem DrawIn.same {C : Addr} {H H' : Hp} {a c g u : Addr} {rows : Rows2} {ks : List KRow} {cs : List Str} {lg : Rows2} {gs ws : List V} {js : List JRow} (d : DrawIn C H a c g u rows ks cs lg gs ws js) (s : Same H H') : DrawIn C H' a c g u rows ks cs lg gs ws js :=
  ⟨d.sg.same s, d.k5, s _ _ d.hc, d.l6, d.hcs, d.ncs, s _ _ d.hg, d.dg.same s, d.lok, d.lg6, d.nam, s _ _ d.hl, d.lw, d.ja.same s, d.gj, d.srt, d.srt2⟩
theorem DrawIn.stk {C : Addr} {H : Hp} {a a' c g u : Addr} {rows : Rows2} {ks : List KRow} {cs : List Str} {lg : Rows2} {gs ws : List V} {js : List JRow} (d : DrawIn C H a c g u rows ks cs lg gs ws js) (sg : StkP C H a' rows ks) : DrawIn C H a' c g u rows ks cs lg gs ws js :=
  ⟨sg, d.k5, d.hc, d.l6, d.hcs, d.ncs, d.hg, d.dg, d.lok, d.lg6, d.nam, d.hl, d.lw, d.ja, d.gj, d.srt, d.srt2⟩
end Toy
namespace Toy
open PySem PySem.Spec PyProof.Rows L2
theorem DrNew.off {D : Addr} {H0 H H' : Hp} {x a p : Addr} {n : Nat} {cs : List Str} {gs ws : List V} {lg : Rows2} {js : List JRow} (d : DrNew D H0 H x a cs gs ws) (hp : SrcAt H p n) (o : Off p H H') (rg : DtAll H gs (lg.map rowT)) (lgs : gs.length ≤ 1000) (jv : JoinsAt H ws js) : DrNew D H0 H' x a cs gs ws := by
  obtain ⟨dx, l1, l2, l3, n0, n1, n2, n3, e0, e1, e2, e3⟩ := d
  obtain ⟨a1, a2, a3, hp0, _⟩ := id hp
  exact ⟨dx, l1, l2, l3, n0, n1, n2, n3, o _ _ e0 (ne_of e0 hp0 (by intro z; cases z)), o _ _ e1 (strs_src hp e1), o _ _ e2 (rows_src hp (.lst e2 lgs rg)), o _ _ e3 (joins_src hp e3 jv)⟩
/-- what stands in the heap beside the source -/
structure Bun (C D : Addr) (H0 H : Hp) (L : Addr) (XS : List V) (x ls lk y c g u : Addr) (rows : Rows2) (ks : List KRow) (ws : List V) (cs : List Str) (lg : Rows2) (gs wj : List V) (js : List JRow) : Prop where
  sg : StkP C H x rows ks
  ds : Dt H (.ref ls) (.list (rows.map rowT))
  dk : Dt H (.ref lk) (.list (ks.map kindT))
  hw : H lk = some (.lst ws)
  kn : Paired (KndP H) ws ks
  hL : H L = some (.lst XS)
  dw : Drawn H rows ks c g u cs lg wj js
  dn : DrNew D H0 H y x cs gs wj
  eg : H g = some (.lst gs)
  rg : DtAll H gs (lg.map rowT)
section
variable {C D : Addr} {H0 H H' : Hp} {L : Addr} {XS : List V} {x ls lk y c g u : Addr} {rows : Rows2} {ks : List KRow} {ws : List V} {cs : List Str} {lg : Rows2} {gs wj : List V} {js : List JRow}
theorem Bun.same (b : Bun C D H0 H L XS x ls lk y c g u rows ks ws cs lg gs wj js) (s : Same H H') : Bun C D H0 H' L XS x ls lk y c g u rows ks ws cs lg gs wj js :=
  ⟨b.sg.same s, b.ds.same s, b.dk.same s, s _ _ b.hw, knds_same s b.kn, s _ _ b.hL, b.dw.same s, b.dn.same s, s _ _ b.eg, b.rg.same s⟩
theorem Bun.lgs (b : Bun C D H0 H L XS x ls lk y c g u rows ks ws cs lg gs wj js) : gs.length ≤ 1000 := by
  have z := b.rg.len
  rw [List.length_map] at z
  have := b.dw.LG.l6
  omega
theorem Bun.off {p : Addr} {n : Nat} (b : Bun C D H0 H L XS x ls lk y c g u rows ks ws cs lg gs wj js) (hp : SrcAt H p n) (nLp : L ≠ p) (o : Off p H H') : Bun C D H0 H' L XS x ls lk y c g u rows ks ws cs lg gs wj js := by
  have lgs := b.lgs
  have ng := rows_src hp b.dw.dg
  have dg' : Dt H' (.ref g) (.list (lg.map rowT)) := b.dw.dg.off hp (noInt_rows lg) o
  have eg' := o _ _ b.eg ng
  refine ⟨b.sg.off hp o, b.ds.off hp (noInt_rows rows) o, b.dk.off hp (noInt_kinds ks) o, o _ _ b.hw (knds_src hp b.hw b.kn), knds_off hp b.kn o, o _ _ b.hL nLp, b.dw.off hp o, b.dn.off hp o b.rg lgs b.dw.jv, eg', ?_⟩
  obtain ⟨gs2, e2, _, r2⟩ := dt_list dg'
  rw [eg'] at e2
  injection e2 with e2
  injection e2 with e2
  rw [e2]
  exact r2
theorem Bun.ncs (b : Bun C D H0 H L XS x ls lk y c g u rows ks ws cs lg gs wj js) (gk : GoodK (rows.map (·.1)) ks) : ∀ x ∈ cs, nameS x = true := fun x hx => by
  obtain ⟨kr, hk, e⟩ := List.mem_map.mp (b.dw.hcs x hx)
  rw [← e]
  exact gk.nm kr hk
theorem Bun.din (b : Bun C D H0 H L XS x ls lk y c g u rows ks ws cs lg gs wj js) (gd : GoodS rows) (gk : GoodK (rows.map (·.1)) ks) (c6 : cs.length ≤ 6) : DrawIn C H x c g u rows ks cs lg gs wj (sortJ js) := b.dw.din gd gk b.sg c6 b.eg
theorem Bun.dr (b : Bun C D H0 H L XS x ls lk y c g u rows ks ws cs lg gs wj js) (gd : GoodS rows) (gk : GoodK (rows.map (·.1)) ks) (c6 : cs.length ≤ 6) : DrAt C D H y (rows.map rowT) (ks.map kindT) (cs.map .str) (lg.map rowT) ((sortJ js).map joinT) := by
  have DI := b.din gd gk c6
  have := DI.lw
  exact b.dn.dr b.sg c6 (b.ncs gk) b.rg b.lgs b.dw.jv DI.gj (by omega)
theorem Bun.dc (b : Bun C D H0 H L XS x ls lk y c g u rows ks ws cs lg gs wj js) (gk : GoodK (rows.map (·.1)) ks) (c6 : cs.length ≤ 6) : Dt H (.ref c) (.list (cs.map .str)) := dt_lstrs b.dw.hc (by omega) (b.ncs gk)
theorem Bun.du (b : Bun C D H0 H L XS x ls lk y c g u rows ks ws cs lg gs wj js) (gd : GoodS rows) (gk : GoodK (rows.map (·.1)) ks) (c6 : cs.length ≤ 6) : Dt H (.ref u) (.list ((sortJ js).map joinT)) := by
  have DI := b.din gd gk c6
  have := DI.lw
  exact .lst b.dw.hu (by omega) (b.dw.jv.dt DI.gj)
end
end Toy
set_option Elab.async false
set_option linter.all false
set_option maxRecDepth 100000
set_option maxHeartbeats 4000000
/-! min(a, b) and max(a, b) of alike plain data; min, max of a list of such; t.index(k) of whole numbers -/
namespace PySem.W
open PySem PySem.Spec PyProof.Rows
section
variable {prog : Program} {w : World} {A : Around} {E : Value → Shared → Prop} {s : Shared}
theorem call_min_twoH {a b : Value} {Q : Value → Shared → Prop}
    (h : wpAny (model prog w) A.in1 (pyIter (.ref s.heap.objs.size)) (fun it s₂ => ∃ I fp wr G n P St H bt, it = .ref I ∧ WalksS prog w A.in1 I fp wr G n P St ∧ St 0 s₂ ∧ (∀ b ∈ fp, b < s₂.heap.objs.size) ∧ 0 < n ∧
      (∀ b o, H.get? b = some o → b ∉ wr) ∧ (∀ b o, H.get? b = some o → s₂.heap.get? b = some o) ∧ CmpIn prog w A.in1 .Lt H P bt ∧ ∀ v s', P (argBest bt (n - 1)) v → Moved wr G s₂ s' → Q v s') E
      { s with heap := s.heap.push { cls := .type "tuple", data := .seq #[a, b] } }) :
    wpAny (model prog w) A (call (.builtin "min") [a, b]) Q E s := by
  have hname : (toString "min" ++ toString ".loop" : String) = "min.loop" := by decide
  refine call_function_tree F.kind_min F.plain_min F.entry_min (F.args_min2 _ _) ?_
  show wpAny _ A.in1 (Builtin.Builtins.bindParams "min" ["key", "default"] 0 ⟨[], []⟩ >>= _) _ _ s
  refine wpAny_bind (wpAny_of_eq (show Builtin.Builtins.bindParams "min" ["key", "default"] 0 ⟨[], []⟩ = pure [none, none] from rfl) ?_)
  show wpAny _ A.in1 (newTuple [a, b] >>= _) _ _ s
  refine wpAny_bind (wpAny_newObj_type ?_)
  refine wpAny_bind (wpAny_mono h (fun it s₂ h₂ => ?_) fun _ _ e => e)
  obtain ⟨I, fp, wr, G, n, P, St, H, bt, rfl, W, hst, hfp, hn, hw, hkeep, hcmp, hQ⟩ := h₂
  refine wpAny_bind (wpAny_newObj_type ?_)
  have hSf : s₂.heap.objs.size ∉ fp := fun hm => Nat.lt_irrefl _ (hfp _ hm)
  rw [hname]
  refine wpAny_pure ⟨plainId_quiet F.plain_min_loop _, codeAny_min_loop_firstH W H hw bt hcmp s₂.heap.objs.size hSf (fresh_in hkeep) _ hn (fun b o e => Heap.get?_push_of_some _ (hkeep b o e)) (W.frame 0 s₂ _ s₂.toks hst (Nat.le_refl _) fun b _ o e => Heap.get?_push_of_some _ e) (Heap.get?_push_size _ rfl) fun v s' hP hm => ?_⟩
  exact hQ v s' hP (Moved.drop_new (tk := s₂.toks) hm (Nat.le_refl _))
theorem call_max_twoH {a b : Value} {Q : Value → Shared → Prop}
    (h : wpAny (model prog w) A.in1 (pyIter (.ref s.heap.objs.size)) (fun it s₂ => ∃ I fp wr G n P St H bt, it = .ref I ∧ WalksS prog w A.in1 I fp wr G n P St ∧ St 0 s₂ ∧ (∀ b ∈ fp, b < s₂.heap.objs.size) ∧ 0 < n ∧
      (∀ b o, H.get? b = some o → b ∉ wr) ∧ (∀ b o, H.get? b = some o → s₂.heap.get? b = some o) ∧ CmpIn prog w A.in1 .Gt H P bt ∧ ∀ v s', P (argBest bt (n - 1)) v → Moved wr G s₂ s' → Q v s') E
      { s with heap := s.heap.push { cls := .type "tuple", data := .seq #[a, b] } }) :
    wpAny (model prog w) A (call (.builtin "max") [a, b]) Q E s := by
  have hname : (toString "max" ++ toString ".loop" : String) = "max.loop" := by decide
  refine call_function_tree F.kind_max F.plain_max F.entry_max (F.args_max2 _ _) ?_
  show wpAny _ A.in1 (Builtin.Builtins.bindParams "max" ["key", "default"] 0 ⟨[], []⟩ >>= _) _ _ s
  refine wpAny_bind (wpAny_of_eq (show Builtin.Builtins.bindParams "max" ["key", "default"] 0 ⟨[], []⟩ = pure [none, none] from rfl) ?_)
  show wpAny _ A.in1 (newTuple [a, b] >>= _) _ _ s
  refine wpAny_bind (wpAny_newObj_type ?_)
  refine wpAny_bind (wpAny_mono h (fun it s₂ h₂ => ?_) fun _ _ e => e)
  obtain ⟨I, fp, wr, G, n, P, St, H, bt, rfl, W, hst, hfp, hn, hw, hkeep, hcmp, hQ⟩ := h₂
  refine wpAny_bind (wpAny_newObj_type ?_)
  have hSf : s₂.heap.objs.size ∉ fp := fun hm => Nat.lt_irrefl _ (hfp _ hm)
  rw [hname]
  refine wpAny_pure ⟨plainId_quiet F.plain_max_loop _, codeAny_max_loop_firstH W H hw bt hcmp s₂.heap.objs.size hSf (fresh_in hkeep) _ hn (fun b o e => Heap.get?_push_of_some _ (hkeep b o e)) (W.frame 0 s₂ _ s₂.toks hst (Nat.le_refl _) fun b _ o e => Heap.get?_push_of_some _ e) (Heap.get?_push_size _ rfl) fun v s' hP hm => ?_⟩
  exact hQ v s' hP (Moved.drop_new (tk := s₂.toks) hm (Nat.le_refl _))
theorem min_two_data {a b : Value} {x y : PyData} {as : List Addr} {Q : Value → Shared → Prop} (hh : A.handled = none) (hr : ReadsAll s.heap [a, b] [x, y] as) (ha : AlikeAll [x, y]) (hu : A.units + 1 + PyData.depthAll [x, y] < cLine)
    (h : ∀ (i : Nat) v h' tk bs, [a, b][i]? = some v → Reads h' v (minD x [y]) bs → (∀ b o, s.heap.get? b = some o → h'.get? b = some o) → Q v { s with heap := h', toks := tk }) :
    wpAny (model prog w) A (call (.builtin "min") [a, b]) Q E s := by
  have hp : ∀ c o, s.heap.get? c = some o → (s.heap.push { cls := .type "tuple", data := .seq #[a, b] }).get? c = some o := fun c o e => Heap.get?_push_of_some _ e
  have hr2 : ReadsAll (s.heap.push { cls := .type "tuple", data := .seq #[a, b] }) (#[a, b]).toList [x, y] as := ReadsAll.keeps hp hr
  refine call_min_twoH (iter_tupleW (A := A.in1) (vs := #[a, b]) hh ⟨_, Heap.get?_push_size _ rfl, rfl, 0, rfl⟩ fun s₂ e W st hfp hw hk => ?_)
  refine ⟨_, _, _, _, _, _, _, s.heap.push { cls := .type "tuple", data := .seq #[a, b] }, _, rfl, W, st, hfp, by show 0 < 2; omega, hw, hk, cmpIn_lt (s := { s with heap := s.heap.push { cls := .type "tuple", data := .seq #[a, b] } }) (vs := #[a, b]) (A := A.in1) hr2 ha (by show A.units + 1 + _ < _; exact hu), fun v s' hP m => ?_⟩
  obtain ⟨h', tk, rfl, hk'⟩ := moved_old e rfl m
  obtain ⟨bs, r, _, _, _⟩ := readsAll_atA hr2 _ v hP
  have e2 := (argBest_fold dataLt PyData.none x [y] 1 (Nat.le_refl _)).2
  rw [List.take_of_length_le (by simp)] at e2
  refine h _ v h' tk bs (by simpa using hP) (reads_keeps hk' (by unfold minD; rw [← e2]; exact r)) fun c o q => hk' c o (hp c o q)
theorem max_two_data {a b : Value} {x y : PyData} {as : List Addr} {Q : Value → Shared → Prop} (hh : A.handled = none) (hr : ReadsAll s.heap [a, b] [x, y] as) (ha : AlikeAll [x, y]) (hu : A.units + 1 + PyData.depthAll [x, y] < cLine)
    (h : ∀ (i : Nat) v h' tk bs, [a, b][i]? = some v → Reads h' v (maxD x [y]) bs → (∀ b o, s.heap.get? b = some o → h'.get? b = some o) → Q v { s with heap := h', toks := tk }) :
    wpAny (model prog w) A (call (.builtin "max") [a, b]) Q E s := by
  have hp : ∀ c o, s.heap.get? c = some o → (s.heap.push { cls := .type "tuple", data := .seq #[a, b] }).get? c = some o := fun c o e => Heap.get?_push_of_some _ e
  have hr2 : ReadsAll (s.heap.push { cls := .type "tuple", data := .seq #[a, b] }) (#[a, b]).toList [x, y] as := ReadsAll.keeps hp hr
  refine call_max_twoH (iter_tupleW (A := A.in1) (vs := #[a, b]) hh ⟨_, Heap.get?_push_size _ rfl, rfl, 0, rfl⟩ fun s₂ e W st hfp hw hk => ?_)
  refine ⟨_, _, _, _, _, _, _, s.heap.push { cls := .type "tuple", data := .seq #[a, b] }, _, rfl, W, st, hfp, by show 0 < 2; omega, hw, hk, cmpIn_gt (s := { s with heap := s.heap.push { cls := .type "tuple", data := .seq #[a, b] } }) (vs := #[a, b]) (A := A.in1) hr2 ha (by show A.units + 1 + _ < _; exact hu), fun v s' hP m => ?_⟩
  obtain ⟨h', tk, rfl, hk'⟩ := moved_old e rfl m
  obtain ⟨bs, r, _, _, _⟩ := readsAll_atA hr2 _ v hP
  have e2 := (argBest_fold (fun a b => dataLt b a) PyData.none x [y] 1 (Nat.le_refl _)).2
  rw [List.take_of_length_le (by simp)] at e2
  refine h _ v h' tk bs (by simpa using hP) (reads_keeps hk' (by unfold maxD; rw [← e2]; exact r)) fun c o q => hk' c o (hp c o q)
end
end PySem.W
namespace L2
open PySem PySem.Spec PyProof.Rows
/-- the lesser (the greater) of two alike plain data, data side by side with their values -/
def rBest2 (K : PySem.W.Frag) (best : PyData → List PyData → PyData) : List V → Hp → VK → Prop := fun vs H Q => ∃ (z y : PyData × V), vs = [z.2, y.2] ∧ (∀ u ∈ [z, y], Dp K H u.2 u.1) ∧
  PySem.W.AlikeAll [z.1, y.1] ∧ PyData.depthAll [z.1, y.1] ≤ 20 ∧ ∀ u ∈ [z, y], u.1 = best z.1 [y.1] → Q u.2 H
def rBestL (K : PySem.W.Frag) (best : PyData → List PyData → PyData) : List V → Hp → VK → Prop := fun vs H Q => ∃ (a : Addr) (z : PyData × V) (zs : List (PyData × V)), vs = [V.ref a] ∧ SqL K H a ((z :: zs).map (·.2)) ∧ (∀ y ∈ z :: zs, Dp K H y.2 y.1) ∧
  PySem.W.AlikeAll ((z :: zs).map (·.1)) ∧ PyData.depthAll ((z :: zs).map (·.1)) ≤ 20 ∧ ∀ y ∈ z :: zs, y.1 = best z.1 (zs.map (·.1)) → Q y.2 H
/-- t.index(k), t a tuple of whole numbers that has it -/
def rTIdx (K : PySem.W.Frag) : V → List V → Hp → VK → Prop := fun x xs H Q => ∃ (p : Addr) (ns : List Int) (k : Int), x = .ref p ∧ xs = [.int k] ∧ SqT K H p (ns.map V.int) ∧ k ∈ ns ∧ Q (.int (ns.idxOf k : Nat)) H
section
variable {X : Cx}
theorem cr_min2D (hc : X.calm = true) (hu : X.A.units + 64 < cLine) : CallR X (.builtin "min") (rBest2 X.K PySem.W.minD) := by
  intro pins s σ H xs us Q I r h
  obtain ⟨z, y, rfl, hd, al, dep, q⟩ := h
  have rv : Vals ([z, y].map (·.2)) us := r
  obtain ⟨as, ra⟩ := reads_zip I (zs := [z, y]) rv hd
  obtain ⟨u, v, rfl, r1, r2⟩ := vals2 r
  refine PySem.W.min_two_data (I.ok.hd hc) (by exact ra) (by exact al) (by have d2 : PyData.depthAll [z.1, y.1] ≤ 20 := dep; exact Nat.lt_of_le_of_lt (Nat.add_le_add_left d2 _) (by omega)) fun i v h' tk bs hv rd hk => ?_
  obtain ⟨x, hx, rx⟩ := vals_at rv hv
  rw [List.getElem?_map] at hx
  cases e : [z, y][i]? with
  | none =>
    rw [e] at hx
    cases hx
  | some t =>
    rw [e] at hx
    cases hx
    have hy := List.mem_of_getElem? e
    refine ⟨t.2, H, I.kept (h' := h') (t' := tk) hk, rx, q t hy ?_⟩
    obtain ⟨cs, rc⟩ := Dp.reads I _ _ _ (hd t hy) rx
    exact PySem.W.alike_unique t.1 _ v _ _ (al.1 _ (List.mem_map_of_mem (f := (·.1)) hy) _ (by exact best_in PySem.W.dataLt [y.1] z.1)) (Reads.keeps hk rc) rd
theorem cr_max2D (hc : X.calm = true) (hu : X.A.units + 64 < cLine) : CallR X (.builtin "max") (rBest2 X.K PySem.W.maxD) := by
  intro pins s σ H xs us Q I r h
  obtain ⟨z, y, rfl, hd, al, dep, q⟩ := h
  have rv : Vals ([z, y].map (·.2)) us := r
  obtain ⟨as, ra⟩ := reads_zip I (zs := [z, y]) rv hd
  obtain ⟨u, v, rfl, r1, r2⟩ := vals2 r
  refine PySem.W.max_two_data (I.ok.hd hc) (by exact ra) (by exact al) (by have d2 : PyData.depthAll [z.1, y.1] ≤ 20 := dep; exact Nat.lt_of_le_of_lt (Nat.add_le_add_left d2 _) (by omega)) fun i v h' tk bs hv rd hk => ?_
  obtain ⟨x, hx, rx⟩ := vals_at rv hv
  rw [List.getElem?_map] at hx
  cases e : [z, y][i]? with
  | none =>
    rw [e] at hx
    cases hx
  | some t =>
    rw [e] at hx
    cases hx
    have hy := List.mem_of_getElem? e
    refine ⟨t.2, H, I.kept (h' := h') (t' := tk) hk, rx, q t hy ?_⟩
    obtain ⟨cs, rc⟩ := Dp.reads I _ _ _ (hd t hy) rx
    exact PySem.W.alike_unique t.1 _ v _ _ (al.1 _ (List.mem_map_of_mem (f := (·.1)) hy) _ (by exact best_in (fun a b => PySem.W.dataLt b a) [y.1] z.1)) (Reads.keeps hk rc) rd
theorem cr_minL (hc : X.calm = true) (hu : X.A.units + 64 < cLine) : CallR X (.builtin "min") (rBestL X.K PySem.W.minD) := by
  intro pins s σ H xs us Q I r h
  obtain ⟨a, z, zs, rfl, hs, hd, al, dep, q⟩ := h
  obtain ⟨its, rv, hl, _⟩ := I.list hs
  rw [Vals.ref1 r]
  obtain ⟨as, ra⟩ := reads_zip I rv hd
  refine PySem.W.min_list_data (vs := its.toArray) (I.ok.hd hc) hl.isList (by exact ra) (by exact al) (by have d2 : PyData.depthAll (z.1 :: zs.map (·.1)) ≤ 20 := dep; exact Nat.lt_of_le_of_lt (Nat.add_le_add_left d2 _) (by omega)) fun i v h' tk bs hv rd hk => ?_
  rw [List.getElem?_toArray] at hv
  obtain ⟨x, hx, rx⟩ := vals_at rv hv
  rw [List.getElem?_map] at hx
  cases e : (z :: zs)[i]? with
  | none =>
    rw [e] at hx
    cases hx
  | some y =>
    rw [e] at hx
    cases hx
    have hy := List.mem_of_getElem? e
    refine ⟨y.2, H, I.kept (h' := h') (t' := tk) hk, rx, q y hy ?_⟩
    obtain ⟨cs, rc⟩ := Dp.reads I _ _ _ (hd y hy) rx
    exact PySem.W.alike_unique y.1 _ v _ _ (al.1 _ (List.mem_map_of_mem (f := (·.1)) hy) _ (by exact best_in PySem.W.dataLt (zs.map (fun y => y.1)) z.1)) (Reads.keeps hk rc) rd
theorem cr_maxL (hc : X.calm = true) (hu : X.A.units + 64 < cLine) : CallR X (.builtin "max") (rBestL X.K PySem.W.maxD) := by
  intro pins s σ H xs us Q I r h
  obtain ⟨a, z, zs, rfl, hs, hd, al, dep, q⟩ := h
  obtain ⟨its, rv, hl, _⟩ := I.list hs
  rw [Vals.ref1 r]
  obtain ⟨as, ra⟩ := reads_zip I rv hd
  refine PySem.W.max_list_data (vs := its.toArray) (I.ok.hd hc) hl.isList (by exact ra) (by exact al) (by have d2 : PyData.depthAll (z.1 :: zs.map (·.1)) ≤ 20 := dep; exact Nat.lt_of_le_of_lt (Nat.add_le_add_left d2 _) (by omega)) fun i v h' tk bs hv rd hk => ?_
  rw [List.getElem?_toArray] at hv
  obtain ⟨x, hx, rx⟩ := vals_at rv hv
  rw [List.getElem?_map] at hx
  cases e : (z :: zs)[i]? with
  | none =>
    rw [e] at hx
    cases hx
  | some y =>
    rw [e] at hx
    cases hx
    have hy := List.mem_of_getElem? e
    refine ⟨y.2, H, I.kept (h' := h') (t' := tk) hk, rx, q y hy ?_⟩
    obtain ⟨cs, rc⟩ := Dp.reads I _ _ _ (hd y hy) rx
    exact PySem.W.alike_unique y.1 _ v _ _ (al.1 _ (List.mem_map_of_mem (f := (·.1)) hy) _ (by exact best_in (fun a b => PySem.W.dataLt b a) (zs.map (fun y => y.1)) z.1)) (Reads.keeps hk rc) rd
theorem mt_tidxI : MtR X "tuple.index" (rTIdx X.K) := by
  intro pins s σ H x xs v us Q I rx rs h
  obtain ⟨p, ns, k, rfl, rfl, hq, hk, q⟩ := h
  cases rx
  obtain ⟨u, rfl, t, rfl⟩ := vals1 rs
  obtain ⟨its, r, pl, hz⟩ := I.tuple hq
  exact PySem.SeqAt.tuple_index_ints pl r.ints hk ⟨.int (ns.idxOf k : Nat), H, I.tok _, ⟨_, rfl⟩, q⟩
end
end L2
set_option Elab.async false
set_option linter.all false
set_option maxRecDepth 100000
set_option maxHeartbeats 4000000
/-! sorted(t), t a tuple of whole numbers -/
namespace PyProof.Rows
open PySem
section
variable {prog : Program} {w : World} {A : Around} {E : Value → Shared → Prop} {s : Shared}
theorem toy_sortedTI {l : Addr} {vs : List Value} {ns : List Int} {Q : Value → Shared → Prop} (hl : s.heap.IsTuple l vs.toArray) (hI : IntsAre vs ns) (h64 : vs.length < 64)
    (h : ∀ (out : Array Value) (ns' : List Int), IntsAre out.toList ns' → ns'.Perm ns → ns'.Pairwise (· ≤ ·) → Q (.ref (s.heap.objs.size + 1)) { s with heap := sortedAll s.heap vs out }) :
    wpAny (model prog w) A (call (.builtin "sorted") [.ref l]) Q E s := by
  refine Calls.call_function_entry kind_sorted plain_sorted entry_sorted (args_sorted1 _) ?_
  unfold Builtin.«sorted»
  refine wpAny_bind (m := checkCount "sorted" 1 1 _) (wpAny_pure (wpAny_bind (toy_collect hl (wpAny_bind (wpAny_newList ?_)) (by rw [sizeLine_eq]; omega))))
  have hsz : ((s.heap.push (seqObj "list" #[] 0)).update s.heap.objs.size (Obj.mapSeq (· ++ vs.toArray))).objs.size = s.heap.objs.size + 1 := by
    rw [Heap.size_update, size_push']
  have hoL : (((s.heap.push (seqObj "list" #[] 0)).update s.heap.objs.size (Obj.mapSeq (· ++ vs.toArray))).push (seqObj "list" vs.toArray 0)).get? (s.heap.objs.size + 1) = some (seqObj "list" vs.toArray 0) := by
    rw [← hsz]
    exact Heap.get?_push_size _ rfl
  show wpAny _ _ _ _ _ { s with heap := ((s.heap.push (seqObj "list" #[] 0)).update s.heap.objs.size (Obj.mapSeq (· ++ vs.toArray))).push (seqObj "list" vs.toArray 0) }
  rw [hsz]
  refine wpAny_bind (wpAny_holding (wpAny_call_entry slot_list_sort ⟨_, hoL, rfl⟩ entry_list_sort (list_sort_tree hoL hI h64 fun out ns' a1 a2 a3 => ⟨_, rfl, ?_⟩) (args_list_sort _)))
  exact wpAny_pure ⟨_, rfl, h out ns' a1 a2 a3⟩
end
end PyProof.Rows
namespace L2
open PySem PySem.Spec PyProof.Rows Toy
section
variable {X : Cx}
def rSortTI (K : PySem.W.Frag) : List V → Hp → VK → Prop := fun vs H Q => ∃ (a : Addr) (ns : List Int), vs = [V.ref a] ∧ SqT K H a (ns.map V.int) ∧ ns.length < 64 ∧
  ∀ (ns' : List Int) (p : Addr), ns'.Perm ns → ns'.Pairwise (· ≤ ·) → H p = none → Q (.ref p) (upd H p (.lst (ns'.map V.int)))
theorem cr_sortTI : CallR X (.builtin "sorted") (rSortTI X.K) := by
  intro pins s σ H xs us Q I r h
  obtain ⟨a, ns, rfl, hs, h64, q⟩ := h
  obtain ⟨its, rv, hl, _⟩ := I.tuple hs
  rw [Vals.ref1 r]
  have hi := rv.ints
  refine toy_sortedTI hl hi (by rw [hi.length]; exact h64) fun out ns' h1 h2 h3 => ?_
  obtain ⟨ep, he'⟩ := PyProof.Rows.sortedAll_at s.heap its out
  have hlen : (ns'.map V.int).length ≤ sizeLine := by rw [List.length_map, h2.length_eq]; exact small64 h64
  exact ⟨.ref _, upd H (s.heap.objs.size + 1) (.lst (ns'.map V.int)), I.laid (t' := s.toks) (fun _ _ => PyProof.Rows.sortedAll_old) (Nat.le_succ _) ⟨hlen, out.toList, ep, vals_of_ints h1, he'⟩, rfl, q ns' _ h2 h3 (I.hok.fresh (Nat.le_succ _))⟩
end
end L2
set_option Elab.async false
set_option linter.all false
set_option maxRecDepth 100000
set_option maxHeartbeats 4000000
namespace Toy
open PySem PySem.Spec PyProof.Rows L2
/-! ### joins moved -/
def intsV (xs : List Nat) : List V := xs.map fun n => V.int (n : Nat)
theorem ints_at {xs : List Nat} {i : Nat} {v : V} (h : (intsV xs)[i]? = some v) : ∃ x, xs[i]? = some x ∧ v = .int (x : Nat) := by
  unfold intsV at h
  rw [List.getElem?_map] at h
  cases e : xs[i]? with
  | none =>
    rw [e] at h
    cases h
  | some x =>
    rw [e] at h
    exact ⟨x, rfl, (Option.some.inj h).symm⟩
theorem ints_get {xs : List Nat} {i x : Nat} (h : xs[i]? = some x) : (intsV xs)[i]? = some (.int (x : Nat)) := by
  unfold intsV
  rw [List.getElem?_map, h]
  rfl
theorem rgV_nat (n : Nat) : rgV 0 (n : Int) = intsV (List.range n) := by
  unfold rgV intsV
  rw [Int.sub_zero, Int.toNat_natCast]
  refine List.map_congr_left fun i _ => ?_
  rw [Int.zero_add]
/-- where a place goes -/
def plN (pl : List Nat) (i : Nat) : Nat := (pl[i]?).getD 0
def plE (pl : List Nat) (e : End) : End := (plN pl e.1, e.2)
def jmv (pl : List Nat) (j : JRow) : JRow := jrow (plE pl j.1, plE pl j.2)
theorem plN_of {pl : List Nat} {i : Nat} (h : i < pl.length) : pl[i]? = some (plN pl i) := by
  unfold plN
  rw [List.getElem?_eq_getElem h]
  rfl
theorem endLe_anti {a b : End} (h1 : endLe a b = true) (h2 : endLe b a = true) : a = b := endR_anti ((endLe_iff a b).mp h1) ((endLe_iff b a).mp h2)
theorem jrow_le {p : EPair} (h : endLe p.1 p.2 = true) : jrow p = (p.1, p.2) := by
  unfold jrow
  rcases mm_cases p with ⟨a, b, _⟩ | ⟨a, b, c⟩
  · rw [a, b]
  · have e := endLe_anti h c
    rw [a, b, e]
theorem jrow_swap (e f : End) : jrow (e, f) = jrow (f, e) := by
  unfold jrow
  rcases mm_cases (e, f) with ⟨a, b, c⟩ | ⟨a, b, c⟩
  · rcases mm_cases (f, e) with ⟨a', b', c'⟩ | ⟨a', b', c'⟩
    · have q : e = f := endLe_anti c c'
      rw [a, b, a', b', q]
    · rw [a, b, a', b']
  · rcases mm_cases (f, e) with ⟨a', b', c'⟩ | ⟨a', b', c'⟩
    · rw [a, b, a', b']
    · have q : f = e := endLe_anti c c'
      rw [a, b, a', b', q]
theorem jrow_two (p : EPair) : jrow p = (p.1, p.2) ∨ jrow p = (p.2, p.1) := by
  unfold jrow
  rcases mm_cases p with ⟨a, b, _⟩ | ⟨a, b, _⟩
  · exact .inl (by rw [a, b])
  · exact .inr (by rw [a, b])
/-- one move behind the other -/
theorem jmv_jmv (P Q : List Nat) (j : JRow) : jmv Q (jmv P j) = jrow (plE Q (plE P j.1), plE Q (plE P j.2)) := by
  rcases jrow_two (plE P j.1, plE P j.2) with h | h
  · show jrow (plE Q (jrow (plE P j.1, plE P j.2)).1, plE Q (jrow (plE P j.1, plE P j.2)).2) = _
    rw [h]
  · show jrow (plE Q (jrow (plE P j.1, plE P j.2)).1, plE Q (jrow (plE P j.1, plE P j.2)).2) = _
    rw [h]
    exact jrow_swap _ _
theorem joinR_anti {a b : JRow} (h1 : joinR a b) (h2 : joinR b a) : a = b := by
  unfold joinR at *
  rcases h1 with ⟨e1, g1⟩ | ⟨e1, g1⟩
  · rcases h2 with ⟨e2, g2⟩ | ⟨e2, g2⟩
    · exact Prod.ext e1 (endR_anti g1 g2)
    · exact absurd e1.symm e2
  · rcases h2 with ⟨e2, g2⟩ | ⟨e2, g2⟩
    · exact absurd e2.symm e1
    · exact absurd (endR_anti g1 g2) e1
theorem joinR_refl (a : JRow) : joinR a a := .inl ⟨rfl, endR_refl _⟩
theorem sortJ_pw (js : List JRow) : (sortJ js).Pairwise joinR := by
  have q := List.pairwise_mergeSort (le := joinLe) (fun a b c h1 h2 => (joinLe_iff a c).mpr (joinR_trans ((joinLe_iff a b).mp h1) ((joinLe_iff b c).mp h2))) (fun a b => by
    rcases joinR_total a b with h | h
    · rw [(joinLe_iff a b).mpr h]
      rfl
    · rw [(joinLe_iff b a).mpr h]
      exact Bool.or_true _) js
  exact q.imp fun h => (joinLe_iff _ _).mp h
theorem joins_one : ∀ {xs ys : List JRow}, xs.Perm ys → xs.Pairwise joinR → ys.Pairwise joinR → xs = ys
  | [], ys, p, _, _ => (List.nil_perm.mp p).symm
  | x :: xs, [], p, _, _ => absurd p.length_eq (by simp)
  | x :: xs, y :: ys, p, h1, h2 => by
    have a1 : joinR x y := by
      rcases List.mem_cons.mp (p.mem_iff.mpr List.mem_cons_self) with z | z
      · rw [z]
        exact joinR_refl _
      · exact (List.pairwise_cons.mp h1).1 _ z
    have a2 : joinR y x := by
      rcases List.mem_cons.mp (p.mem_iff.mp List.mem_cons_self) with z | z
      · rw [z]
        exact joinR_refl _
      · exact (List.pairwise_cons.mp h2).1 _ z
    have e : x = y := joinR_anti a1 a2
    subst e
    rw [joins_one p.cons_inv (List.pairwise_cons.mp h1).2 (List.pairwise_cons.mp h2).2]
theorem sortJ_perm_eq {xs ys : List JRow} (p : xs.Perm ys) : sortJ xs = sortJ ys := joins_one (((sortJ_perm xs).trans p).trans (sortJ_perm ys).symm) (sortJ_pw xs) (sortJ_pw ys)
def movedJ (pl : List Nat) (js : List JRow) : List JRow := sortJ (js.map (jmv pl))
theorem moved_sort (pl : List Nat) (js : List JRow) : movedJ pl (sortJ js) = movedJ pl js := sortJ_perm_eq ((sortJ_perm js).map _)
theorem moved_moved {P Q R : List Nat} {js : List JRow} (h : ∀ j ∈ js, plN Q (plN P j.1.1) = plN R j.1.1 ∧ plN Q (plN P j.2.1) = plN R j.2.1) : movedJ Q (movedJ P js) = movedJ R js := by
  unfold movedJ
  refine (sortJ_perm_eq ((sortJ_perm _).map _)).trans ?_
  rw [List.map_map]
  refine congrArg sortJ (List.map_congr_left fun j hj => ?_)
  show jmv Q (jmv P j) = jmv R j
  rw [jmv_jmv]
  obtain ⟨a, b⟩ := h j hj
  unfold jmv plE
  rw [a, b]
theorem moved_id {P : List Nat} {js : List JRow} (h : ∀ j ∈ js, plN P j.1.1 = j.1.1 ∧ plN P j.2.1 = j.2.1 ∧ endLe j.1 j.2 = true) : movedJ P js = sortJ js := by
  unfold movedJ
  refine congrArg sortJ ?_
  refine (List.map_congr_left (g := id) fun j hj => ?_).trans (List.map_id _)
  obtain ⟨a, b, c⟩ := h j hj
  unfold jmv plE
  rw [a, b]
  exact jrow_le c
/-! ### the ends of moved joins -/
theorem jmv_split (pl : List Nat) : ∀ js : List JRow, ((js.map (jmv pl)).map (·.1) ++ (js.map (jmv pl)).map (·.2)).Perm ((js.map (·.1) ++ js.map (·.2)).map (plE pl))
  | [] => List.Perm.refl _
  | j :: js => by
    have ih := jmv_split pl js
    show ((jmv pl j).1 :: ((js.map (jmv pl)).map (·.1) ++ (jmv pl j).2 :: (js.map (jmv pl)).map (·.2))).Perm (plE pl j.1 :: (js.map (·.1) ++ j.2 :: js.map (·.2)).map (plE pl))
    have h : ((jmv pl j).1 :: (jmv pl j).2 :: ((js.map (·.1) ++ js.map (·.2)).map (plE pl))).Perm (plE pl j.1 :: plE pl j.2 :: ((js.map (·.1) ++ js.map (·.2)).map (plE pl))) := by
      rcases jrow_two (plE pl j.1, plE pl j.2) with q | q
      · unfold jmv
        rw [q]
      · unfold jmv
        rw [q]
        exact List.Perm.swap _ _ _
    refine (List.Perm.cons _ (List.perm_middle.trans (List.Perm.cons _ ih))).trans (h.trans ?_)
    refine List.Perm.cons _ ?_
    rw [List.map_append, List.map_append, List.map_cons]
    exact List.perm_middle.symm
theorem jmv_good {rows : Rows2} (m : Mut rows) {pl : List Nat} {j : JRow} (g : GoodJ rows j) : GoodJ rows (jmv pl j) := jrow_good m (p := (plE pl j.1, plE pl j.2)) g.pr g.n1 g.n2
end Toy
set_option Elab.async false
set_option linter.all false
set_option maxRecDepth 100000
set_option maxHeartbeats 4000000
namespace Toy
open PySem PySem.Spec PyProof.Rows L2
/-! ### corners renamed -/
def cornAt (cs : List Str) (i : Nat) : Str := (cs[i]?).getD ""
theorem cornAt_of {cs : List Str} {i : Nat} (h : i < cs.length) : cs[i]? = some (cornAt cs i) := by
  unfold cornAt
  rw [List.getElem?_eq_getElem h]
  rfl
def renC (nums : List Nat) (cs : List Str) : List Str := (List.range cs.length).map fun k => cornAt cs (nums.idxOf k)
def renP (nums : List Nat) (m g : Nat) : List Nat := nums ++ (List.range g).map fun j => m + j
theorem renC_len (nums : List Nat) (cs : List Str) : (renC nums cs).length = cs.length := by
  unfold renC
  rw [List.length_map, List.length_range]
theorem cornE_flat (ks : List KRow) : ∀ (cs : List Str) (i : Nat), cornE ks i cs = (List.range cs.length).flatMap fun j => (kEnds ks (cornAt cs j)).map fun s => (i + j, s)
  | [], i => rfl
  | c :: cs, i => by
    show (kEnds ks c).map (fun s => (i, s)) ++ cornE ks (i + 1) cs = _
    rw [cornE_flat ks cs (i + 1), List.length_cons, List.range_succ_eq_map, List.flatMap_cons, List.flatMap_map]
    have e0 : cornAt (c :: cs) 0 = c := rfl
    rw [e0, Nat.add_zero]
    congr 1
    refine congrArg (fun f => List.flatMap f (List.range cs.length)) (funext fun j => ?_)
    show (kEnds ks (cornAt cs j)).map (fun s => (i + 1 + j, s)) = (kEnds ks (cornAt cs j)).map (fun s => (i + (j + 1), s))
    rw [show i + 1 + j = i + (j + 1) by omega]
structure RenOk (nums : List Nat) (m : Nat) : Prop where
  pm : nums.Perm (List.range m)
theorem RenOk.len {nums : List Nat} {m : Nat} (h : RenOk nums m) : nums.length = m := by rw [h.pm.length_eq, List.length_range]
theorem RenOk.nd {nums : List Nat} {m : Nat} (h : RenOk nums m) : nums.Nodup := h.pm.nodup_iff.mpr List.nodup_range
theorem RenOk.mem {nums : List Nat} {m k : Nat} (h : RenOk nums m) : k ∈ nums ↔ k < m := by rw [h.pm.mem_iff, List.mem_range]
theorem RenOk.at_ {nums : List Nat} {m i : Nat} (h : RenOk nums m) (hi : i < m) : ∃ k, nums[i]? = some k ∧ k < m ∧ nums.idxOf k = i := by
  have l : i < nums.length := by rw [h.len]; exact hi
  refine ⟨nums[i], List.getElem?_eq_getElem l, h.mem.mp (List.getElem_mem l), ?_⟩
  exact h.nd.idxOf_getElem i l
theorem RenOk.idx {nums : List Nat} {m k : Nat} (h : RenOk nums m) (hk : k < m) : nums.idxOf k < m ∧ nums[nums.idxOf k]? = some k := by
  have hm := h.mem.mpr hk
  have l := List.idxOf_lt_length_of_mem hm
  refine ⟨by rw [h.len] at l; exact l, ?_⟩
  rw [List.getElem?_eq_getElem l]
  exact congrArg some (List.getElem_idxOf l)
theorem map_range_get (nums : List Nat) : (List.range nums.length).map (plN nums) = nums := by
  refine List.ext_getElem? fun i => ?_
  rw [List.getElem?_map]
  by_cases h : i < nums.length
  · rw [List.getElem?_range h, plN_of h]
    rfl
  · rw [List.getElem?_eq_none (by rw [List.length_range]; omega), List.getElem?_eq_none (by omega)]
    rfl
theorem renP_lo {nums : List Nat} {m g i : Nat} (h : RenOk nums m) (hi : i < m) : plN (renP nums m g) i = plN nums i := by
  unfold plN renP
  rw [List.getElem?_append_left (by rw [h.len]; exact hi)]
theorem renP_hi {nums : List Nat} {m g i : Nat} (h : RenOk nums m) (h1 : m ≤ i) (h2 : i < m + g) : plN (renP nums m g) i = i := by
  unfold plN renP
  rw [List.getElem?_append_right (by rw [h.len]; exact h1), List.getElem?_map, h.len, List.getElem?_range (by omega)]
  show m + (i - m) = i
  omega
theorem renP_len {nums : List Nat} {m g : Nat} (h : RenOk nums m) : (renP nums m g).length = m + g := by
  unfold renP
  rw [List.length_append, List.length_map, List.length_range, h.len]
theorem leg_to : ∀ {lg : Rows2} {i : Nat} {e : End}, e ∈ legE i lg → i ≤ e.1 ∧ e.1 < i + lg.length
  | g :: lg, i, e, h => by
    rcases List.mem_cons.mp (show e ∈ (i, g.2) :: legE (i + 1) lg from h) with z | z
    · rw [z, List.length_cons]
      exact ⟨Nat.le_refl i, by show i < _; omega⟩
    · have q := leg_to z
      rw [List.length_cons]
      exact ⟨by omega, by omega⟩
theorem flat_congr {α β : Type} {f g : α → List β} : ∀ {l : List α}, (∀ x ∈ l, f x = g x) → l.flatMap f = l.flatMap g
  | [], _ => rfl
  | x :: l, h => by
    rw [List.flatMap_cons, List.flatMap_cons, h x List.mem_cons_self, flat_congr fun y hy => h y (List.mem_cons_of_mem _ hy)]
theorem ends_ren {nums : List Nat} {ks : List KRow} {cs : List Str} {lg : Rows2} (h : RenOk nums cs.length) : ((allE ks cs lg).map (plE (renP nums cs.length lg.length))).Perm (allE ks (renC nums cs) lg) := by
  unfold allE
  rw [List.map_append, renC_len]
  refine List.Perm.append ?_ ?_
  · rw [cornE_flat, cornE_flat, renC_len, List.map_flatMap]
    have e1 : (List.range cs.length).flatMap (fun j => ((kEnds ks (cornAt cs j)).map fun s => (0 + j, s)).map (plE (renP nums cs.length lg.length))) = nums.flatMap fun k => (kEnds ks (cornAt cs (nums.idxOf k))).map fun s => (0 + k, s) := by
      have e2 : nums.flatMap (fun k => (kEnds ks (cornAt cs (nums.idxOf k))).map fun s => (0 + k, s)) = (List.range cs.length).flatMap fun i => (kEnds ks (cornAt cs (nums.idxOf (plN nums i)))).map fun s => (0 + plN nums i, s) := by
        have q := congrArg (List.flatMap fun k => (kEnds ks (cornAt cs (nums.idxOf k))).map fun s => (0 + k, s)) (map_range_get nums)
        rw [List.flatMap_map, h.len] at q
        exact q.symm
      rw [e2]
      refine flat_congr fun j hj => ?_
      have hj2 := List.mem_range.mp hj
      obtain ⟨k, hk, hk2, hk3⟩ := h.at_ hj2
      have ek : plN nums j = k := by
        unfold plN
        rw [hk]
        rfl
      rw [ek, hk3, List.map_map]
      refine List.map_congr_left fun s _ => ?_
      show (plN (renP nums cs.length lg.length) (0 + j), s) = (0 + k, s)
      rw [Nat.zero_add, Nat.zero_add, renP_lo h hj2, ek]
    rw [e1]
    refine (h.pm.flatMap_right _).trans ?_
    refine List.Perm.of_eq (flat_congr fun k hk => ?_)
    have hk2 := List.mem_range.mp hk
    have e3 : cornAt (renC nums cs) k = cornAt cs (nums.idxOf k) := by
      show ((renC nums cs)[k]?).getD "" = _
      unfold renC
      rw [List.getElem?_map, List.getElem?_range hk2]
      rfl
    rw [e3]
  · refine List.Perm.of_eq ?_
    refine (List.map_congr_left (g := id) fun e he => ?_).trans (List.map_id _)
    obtain ⟨a, b⟩ := leg_to he
    unfold plE
    rw [renP_hi h a b]
    rfl
theorem renC_mem {nums : List Nat} {cs : List Str} (h : RenOk nums cs.length) : ∀ x ∈ renC nums cs, x ∈ cs := fun x hx => by
  unfold renC at hx
  obtain ⟨k, hk, rfl⟩ := List.mem_map.mp hx
  have q := (h.idx (List.mem_range.mp hk)).1
  exact List.mem_of_getElem? (cornAt_of q)
theorem endI_places {nums : List Nat} {ks : List KRow} {cs : List Str} {lg : Rows2} {e : End} (he : e ∈ allE ks cs lg) : e.1 < cs.length + lg.length := by
  unfold allE at he
  rcases List.mem_append.mp he with z | z
  · have := (corn_from z).2
    omega
  · exact (leg_to z).2
/-! ### a good drawing in the heap -/
structure DrG (C D : Addr) (H : Hp) (x a : Addr) (rows : Rows2) (ks : List KRow) (cs : List Str) (lg : Rows2) (gs ws : List V) (js : List JRow) : Prop where
  ob : ∃ dx l1 l2 l3, H x = some (.ins D dx (df a l1 l2 l3)) ∧ DrawIn C H a l1 l2 l3 rows ks cs lg gs ws js
theorem DrG.same {C D : Addr} {H H' : Hp} {x a : Addr} {rows : Rows2} {ks : List KRow} {cs : List Str} {lg : Rows2} {gs ws : List V} {js : List JRow} (d : DrG C D H x a rows ks cs lg gs ws js) (s : Same H H') : DrG C D H' x a rows ks cs lg gs ws js := by
  obtain ⟨dx, l1, l2, l3, e, DI⟩ := d
  exact ⟨dx, l1, l2, l3, s _ _ e, DI.same s⟩
theorem DrNew.drg {C D : Addr} {H0 H : Hp} {x a c g l : Addr} {rows : Rows2} {ks : List KRow} {cs : List Str} {lg : Rows2} {gs ws : List V} {js : List JRow} (d : DrNew D H0 H x a cs gs ws) (DI : DrawIn C H0 a c g l rows ks cs lg gs ws js) (s : Same H0 H) : DrG C D H x a rows ks cs lg gs ws js := by
  obtain ⟨dx, l1, l2, l3, n0, n1, n2, n3, e0, e1, e2, e3⟩ := d
  have D2 := DI.same s
  obtain ⟨gs2, eg, lgs, rg⟩ := dt_list D2.dg
  rw [D2.hg] at eg
  injection eg with eg
  injection eg with eg
  subst eg
  exact ⟨dx, l1, l2, l3, e0, D2.sg, D2.k5, e1, D2.l6, D2.hcs, D2.ncs, e2, .lst e2 lgs rg, D2.lok, D2.lg6, D2.nam, e3, D2.lw, D2.ja, D2.gj, D2.srt, D2.srt2⟩
theorem DrG.at_ {C D : Addr} {H : Hp} {x a : Addr} {rows : Rows2} {ks : List KRow} {cs : List Str} {lg : Rows2} {gs ws : List V} {js : List JRow} (d : DrG C D H x a rows ks cs lg gs ws js) : DrAt C D H x (rows.map rowT) (ks.map kindT) (cs.map .str) (lg.map rowT) (js.map joinT) := by
  obtain ⟨dx, l1, l2, l3, e, DI⟩ := d
  have := DI.lw
  exact ⟨⟨dx, a, l1, l2, l3, e, DI.sg.g.at_, dt_lstrs DI.hc (by have := DI.l6; omega) DI.ncs, DI.dg, .lst DI.hl (by omega) (DI.ja.dt DI.gj)⟩, low_strs cs, low_rows lg, low_joins js⟩
/-- what is known of a good drawing: its joins are those of all ends -/
theorem DrawIn.perm {C : Addr} {H : Hp} {a c g l : Addr} {rows : Rows2} {ks : List KRow} {cs : List Str} {lg : Rows2} {gs ws : List V} {js : List JRow} (d : DrawIn C H a c g l rows ks cs lg gs ws js) : (js.map (·.1) ++ js.map (·.2)).Perm (allE ks cs lg) := by
  have e := d.srt2
  rw [sortD_E] at e
  have inj : ∀ {xs ys : List End}, xs.map endT = ys.map endT → xs = ys := fun {xs} => by
    induction xs with
    | nil =>
      intro ys h
      cases ys with
      | nil => rfl
      | cons y ys => cases h
    | cons x xs ih =>
      intro ys h
      cases ys with
      | nil => cases h
      | cons y ys =>
        rw [List.map_cons, List.map_cons] at h
        injection h with h1 h2
        rw [endT_inj h1, ih h2]
  rw [← inj e]
  exact (List.mergeSort_perm _ _).symm
theorem DrawIn.sorted {C : Addr} {H : Hp} {a c g l : Addr} {rows : Rows2} {ks : List KRow} {cs : List Str} {lg : Rows2} {gs ws : List V} {js : List JRow} (d : DrawIn C H a c g l rows ks cs lg gs ws js) : sortJ js = js := by
  have e := d.srt
  rw [sortD_J] at e
  have jinj : ∀ {a b : JRow}, joinT a = joinT b → a = b := fun {a b} h => by
    have h2 : PyData.tuple [.int (a.1.1 : Nat), .str a.1.2, .int (a.2.1 : Nat), .str a.2.2] = .tuple [.int (b.1.1 : Nat), .str b.1.2, .int (b.2.1 : Nat), .str b.2.2] := h
    injection h2 with h2
    injection h2 with h3 h4
    injection h4 with h4 h5
    injection h5 with h5 h6
    injection h6 with h6 _
    injection h3 with h3
    injection h4 with h4
    injection h5 with h5
    injection h6 with h6
    exact Prod.ext (Prod.ext (by omega) h4) (Prod.ext (by omega) h6)
  have inj : ∀ {xs ys : List JRow}, xs.map joinT = ys.map joinT → xs = ys := fun {xs} => by
    induction xs with
    | nil =>
      intro ys h
      cases ys with
      | nil => rfl
      | cons y ys => cases h
    | cons x xs ih =>
      intro ys h
      cases ys with
      | nil => cases h
      | cons y ys =>
        rw [List.map_cons, List.map_cons] at h
        injection h with h1 h2
        rw [jinj h1, ih h2]
  exact inj e
/-- all ends of its joins stand at its places -/
theorem DrawIn.places {C : Addr} {H : Hp} {a c g l : Addr} {rows : Rows2} {ks : List KRow} {cs : List Str} {lg : Rows2} {gs ws : List V} {js : List JRow} (d : DrawIn C H a c g l rows ks cs lg gs ws js) : ∀ j ∈ js, j.1.1 < cs.length + lg.length ∧ j.2.1 < cs.length + lg.length := fun j hj => by
  have p := d.perm
  exact ⟨endI_places (nums := []) (p.mem_iff.mp (List.mem_append.mpr (.inl (List.mem_map_of_mem (f := fun j : JRow => j.1) hj)))), endI_places (nums := []) (p.mem_iff.mp (List.mem_append.mpr (.inr (List.mem_map_of_mem (f := fun j : JRow => j.2) hj))))⟩
end Toy
set_option Elab.async false
set_option linter.all false
set_option maxRecDepth 100000
set_option maxHeartbeats 4000000
namespace Toy
open PySem PySem.Spec PyProof.Rows L2
/-- a join's sorts and names, whichever end stands first -/
structure GoodN (rows : Rows2) (j : JRow) : Prop where
  pr : (j.1.2, j.2.2) ∈ rows
  n1 : nameS j.1.2 = true
  n2 : nameS j.2.2 = true
theorem GoodJ.gn {rows : Rows2} {j : JRow} (g : GoodJ rows j) : GoodN rows j := ⟨g.pr, g.n1, g.n2⟩
theorem JoinsAt.dtN {H : Hp} {rows : Rows2} : ∀ {vs : List V} {js : List JRow}, JoinsAt H vs js → (∀ j ∈ js, GoodN rows j) → DtAll H vs (js.map joinT)
  | _, [], .nil, _ => .nil
  | _, j :: js, .cons ⟨t, e, tq⟩ r, g => by
    subst e
    have gj := g j List.mem_cons_self
    exact .cons (.tup tq (by show 4 ≤ 1000; decide) (.cons (.int _) (.cons (.str _ (okS_name gj.n1)) (.cons (.int _) (.cons (.str _ (okS_name gj.n2)) .nil))))) (JoinsAt.dtN r fun x hx => g x (List.mem_cons_of_mem _ hx))
/-- sorted(xs) of a list of data: the list is new -/
theorem sort_okN {K : PySem.W.Frag} {H : Hp} {Q : VK} {a : Addr} {ds : List PyData} (h : Dt H (.ref a) (.list ds)) (low : ∀ d ∈ ds, noDict d = true ∧ PyData.depth d ≤ 20) (al : PySem.W.AllAlike ds) (so : PySem.W.Sortable ds)
    (q : ∀ p H' ys, H p = none → H' p = some (.lst ys) → DtAll (del H' p) ys (sortD ds) → Same H (del H' p) → Q (.ref p) H') : rSortD K [.ref a] H Q := by
  obtain ⟨xs, e, l, r⟩ := dt_list h
  obtain ⟨e1, e2⟩ := zip_fst r
  have zd := zip_dt r
  have mem1 : ∀ z ∈ ds.zip xs, z.1 ∈ ds := fun z hz => by rw [← e1]; exact List.mem_map_of_mem (f := (·.1)) hz
  have lz : (ds.zip xs).length = xs.length := by rw [← List.length_map (f := (·.2)), e2]
  refine ⟨a, ds.zip xs, rfl, by rw [e2]; exact SqL.of e, fun z hz => ⟨(zd z hz).dp (low _ (mem1 z hz)).1, (low _ (mem1 z hz)).2⟩, by rw [e1]; exact al, by rw [e1]; exact so, by omega, fun p np => ?_⟩
  have d2 := dts_of (H := H) (zs := (ds.zip xs).mergeSort (PySem.W.dataLe false (·.1))) fun z hz => zd z (List.mem_mergeSort.mp hz)
  rw [sort_fst, e1] at d2
  exact q p _ _ np upd_same (d2.same (same_del' np)) (same_del' np)
def spPMoved : Sp := fun vs H Q _ => ∃ (u q : Addr) (ws : List V) (js : List JRow) (pl : List Nat) (qs : List V) (rows : Rows2), vs = [.ref u, .ref q] ∧ H u = some (.lst ws) ∧ JoinsAt H ws js ∧ H q = some (.lst qs) ∧ js.length ≤ 60 ∧ Mut rows ∧ (∀ j ∈ js, GoodN rows j) ∧ (∀ j ∈ js, qs[j.1.1]? = some (.int (plN pl j.1.1 : Nat)) ∧ qs[j.2.1]? = some (.int (plN pl j.2.1 : Nat))) ∧
  ∀ (r : Addr) (ws' : List V) (H' : Hp), H r = none → Same H (del H' r) → H' r = some (.lst ws') → JoinsAt (del H' r) ws' (movedJ pl js) → Q (.ref r) H'
theorem joins_at {H : Hp} {ws : List V} {js : List JRow} {i : Nat} {v : V} (h : JoinsAt H ws js) (e : ws[i]? = some v) : ∃ j t, js[i]? = some j ∧ v = .ref t ∧ TupAt H t (joinV j) := by
  obtain ⟨j, hj, t, e2, tq⟩ := paired_at (show Paired _ ws js from h) e
  exact ⟨j, t, hj, e2, tq⟩
/-- the lesser and the greater of two ends in the heap, one behind the other -/
theorem best_end {K : PySem.W.Frag} {H : Hp} {e f : End} {t1 t2 : Addr} (n1 : nameS e.2 = true) (n2 : nameS f.2 = true) (h1 : TupAt H t1 [.int (e.1 : Nat), .str e.2]) (h2 : TupAt H t2 [.int (f.1 : Nat), .str f.2]) :
    (∀ y ∈ [(endT e, V.ref t1), (endT f, V.ref t2)], Dp K H y.2 y.1) ∧ PySem.W.AlikeAll [endT e, endT f] ∧ PyData.depthAll [endT e, endT f] ≤ 20 := by
  refine ⟨fun y hy => ?_, alike_two _ _, ?_⟩
  · have hy2 : y = (endT e, V.ref t1) ∨ y = (endT f, V.ref t2) := by simpa using hy
    rcases hy2 with rfl | rfl
    · exact (dt_endT n1 h1).dp (low_endT e).nd
    · exact (dt_endT n2 h2).dp (low_endT f).nd
  · have q := depth_all (n := 18) (ds := [endT e, endT f]) fun d hd => by
      have hd2 : d = endT e ∨ d = endT f := by simpa using hd
      rcases hd2 with rfl | rfl
      · exact (low18_end e).dep
      · exact (low18_end f).dep
    omega
section
variable {P : Program} {w : World} {K : PySem.W.Frag} {mg : Str → Option Value} {base : Heap}
abbrev mvN : List Str := ["joins", "places", "rows", "place", "sort", "other_place", "other_sort", "one", "other"]
theorem scPMoved : FnScope mvN ["joins", "places"] (defScope sPMoved) := ⟨rfl, rfl, rfl, by decide +kernel, rfl, by decide +kernel, by decide +kernel⟩
theorem ok_pmoved {f : Addr} {fd : FuncData} (F : Fun K "moved" "moved" sPMoved f fd) (M : Mods mg) (mMn : mg "min" = none) (mMx : mg "max" = none) :
    FnOk P w K mg base CX0 1 f fd ["joins", "places"] spPMoved := by
  refine F.ok scPMoved (fun vs H Q E h => ?_) (fun cdv A outer s H vs Q E hr h => ?_)
  · obtain ⟨u, q, ws, js, pl, qs, rows, rfl, _⟩ := h
    rfl
  · obtain ⟨u, q, ws, js, pl, qs, rows, rfl, hu, jv, hq, l60, mu, gj, hpl, k⟩ := h
    refine ⟨_, (pss_cons (ps_set (i := 2) scPMoved.nd rfl (Or.inl rfl) (pe_lst pa_nil))
      (pss_cons (ps_for PassesOwn.never rfl (pi_list (pv 0)) (pg_tup rfl (pgs_cons (pg_name (i := 3) scPMoved.nd rfl (Or.inl rfl)) (pgs_cons (pg_name (i := 4) scPMoved.nd rfl (Or.inl rfl)) (pgs_cons (pg_name (i := 5) scPMoved.nd rfl (Or.inl rfl)) (pgs_cons (pg_name (i := 6) scPMoved.nd rfl (Or.inl rfl)) pgs_nil))))) (pss_cons (ps_set (i := 7) scPMoved.nd rfl (Or.inl rfl) (pe_tup (pa_cons (pe_ix ix_list (pv 1) (pv 3) (fun _ _ => rfl)) (pa_cons (pv 4) pa_nil))))
      (pss_cons (ps_set (i := 8) scPMoved.nd rfl (Or.inl rfl) (pe_tup (pa_cons (pe_ix ix_list (pv 1) (pv 5) (fun _ _ => rfl)) (pa_cons (pv 6) pa_nil))))
      (pss_one (ps_expr (pe_bm PySem.F.plainAttrs_list PySem.F.slot_list_append PySem.F.type_list_append mt_append (pv 2) (pa_cons (pe_op op_catT (pe_callB (cr_min2D rfl hr.units) (by rfl) mMn (by decide +kernel) (pa_cons (pv 7) (pa_cons (pv 8) pa_nil))) (pe_callB (cr_max2D rfl hr.units) (by rfl) mMx (by decide +kernel) (pa_cons (pv 7) (pa_cons (pv 8) pa_nil)))) pa_nil)))))))
      (pss_one (ps_ret (pe_callB (cr_sortD hr.units) (by rfl) M.srt (by decide +kernel) (pa_cons (pv 2) pa_nil)))))), ?_⟩
    have lws := jv.len
    refine ⟨Nat.zero_le _, fun D nD => ?_⟩
    refine ⟨_, rfl, u, rfl, ⟨_, SqL.of (same_new nD _ _ hu)⟩, for_it (walk_list (K := K) (a := u) (xs := ws)) (fun i σ H' => (∃ y3 y4 y5 y6 y7 y8, σ = [some (.ref u), some (.ref q), some (.ref D), y3, y4, y5, y6, y7, y8]) ∧ Same H (del H' D) ∧ ∃ vs, H' D = some (.lst vs) ∧ JoinsAt (del H' D) vs ((js.take i).map (jmv pl)))
      ⟨⟨none, none, none, none, none, none, rfl⟩, same_del' nD, [], upd_same, .nil⟩ (fun i σ H' _ h => SqL.of (del_sub _ _ (h.2.1 _ _ hu))) ?_ ?_⟩
    · rintro i x σ H30 H3 hi ⟨⟨y3, y4, y5, y6, y7, y8, rfl⟩, s3, vs3, hD3, jv3⟩ ⟨rfl, hx⟩
      obtain ⟨j, t, hj, rfl, tq⟩ := joins_at jv hx
      have hm := List.mem_of_getElem? hj
      have s03 := s3.trans (del_sub (H := H3) (p := D))
      obtain ⟨b1, b2⟩ := hpl j hm
      have n1 := (gj j hm).n1
      have n2 := (gj j hm).n2
      refine ⟨t, _, rfl, (tq.same s03).sq, rfl, _, _, rfl, _, _, rfl, _, _, rfl, _, _, rfl, rfl, ?_⟩
      refine ⟨_, rfl, _, rfl, q, _, _, _, rfl, rfl, SqL.of (s03 _ _ hq), at_of rfl b1, _, rfl, by show 2 ≤ sizeLine; decide, fun t1 nt1 => ?_⟩
      have x1 := same_new (o := .tup [.int (plN pl j.1.1 : Nat), .str j.1.2]) nt1
      have ht1 : upd H3 t1 (.tup [.int (plN pl j.1.1 : Nat), .str j.1.2]) t1 = some (.tup [.int (plN pl j.1.1 : Nat), .str j.1.2]) := upd_same
      have hD4 := x1 _ _ hD3
      have s4 := s3.trans (same_del (l := D) x1)
      have jv4 := jv3.same (same_del (l := D) x1)
      generalize upd H3 t1 (.tup [.int (plN pl j.1.1 : Nat), .str j.1.2]) = H4 at x1 ht1 hD4 s4 jv4 ⊢
      have s04 := s4.trans (del_sub (H := H4) (p := D))
      refine ⟨_, rfl, _, rfl, q, _, _, _, rfl, rfl, SqL.of (s04 _ _ hq), at_of rfl b2, _, rfl, by show 2 ≤ sizeLine; decide, fun t2 nt2 => ?_⟩
      have x2 := same_new (o := .tup [.int (plN pl j.2.1 : Nat), .str j.2.2]) nt2
      have ht2 : upd H4 t2 (.tup [.int (plN pl j.2.1 : Nat), .str j.2.2]) t2 = some (.tup [.int (plN pl j.2.1 : Nat), .str j.2.2]) := upd_same
      have ht1 := x2 _ _ ht1
      have hD5 := x2 _ _ hD4
      have s5 := s4.trans (same_del (l := D) x2)
      have jv5 := jv4.same (same_del (l := D) x2)
      generalize upd H4 t2 (.tup [.int (plN pl j.2.1 : Nat), .str j.2.2]) = H5 at x2 ht1 ht2 hD5 s5 jv5 ⊢
      have w1 : TupAt H5 t1 [.int ((plE pl j.1).1 : Nat), .str (plE pl j.1).2] := .of ht1
      have w2 : TupAt H5 t2 [.int ((plE pl j.2).1 : Nat), .str (plE pl j.2).2] := .of ht2
      obtain ⟨dps, al, dep⟩ := best_end (K := K) (e := plE pl j.1) (f := plE pl j.2) n1 n2 w1 w2
      refine ⟨_, rfl, .inl ⟨rfl, _, SqL.of hD5⟩, _, rfl, _, rfl, (endT (plE pl j.1), .ref t1), (endT (plE pl j.2), .ref t2), rfl, dps, al, dep, fun ya hya eya => ?_⟩
      obtain ⟨ta, ea, wa⟩ := pick_end w1 w2 hya (eya.trans (min_endT (plE pl j.1, plE pl j.2)))
      rw [ea]
      refine ⟨_, rfl, _, rfl, (endT (plE pl j.1), .ref t1), (endT (plE pl j.2), .ref t2), rfl, dps, al, dep, fun yb hyb eyb => ?_⟩
      obtain ⟨tb, eb, wb⟩ := pick_end w1 w2 hyb (eyb.trans (max_endT (plE pl j.1, plE pl j.2)))
      rw [eb]
      refine ⟨ta, tb, _, _, rfl, rfl, wa.sq, wb.sq, (by intro z; cases z), (by show 4 ≤ sizeLine; decide), (fun z => nomatch z), fun _ v nv => ?_⟩
      have nvD : v ≠ D := (ne_of_none hD5 nv).symm
      have x6 := same_new (o := .tup (joinV (jmv pl j))) nv
      have hv : upd H5 v (.tup (joinV (jmv pl j))) v = some (.tup (joinV (jmv pl j))) := upd_same
      have hD6 := x6 _ _ hD5
      have lv : vs3.length ≤ 60 := by
        have z := jv3.len
        rw [List.length_map, List.length_take] at z
        omega
      refine ⟨D, vs3, .ref v, rfl, rfl, hD6, by rw [sizeLine_eq]; omega, ?_⟩
      have s6 := s5.trans (same_del (l := D) x6)
      refine ⟨⟨_, _, _, _, _, _, rfl⟩, s6.trans del_upd_same, vs3 ++ [.ref v], upd_same, ?_⟩
      rw [take_snoc hj, List.map_append]
      refine ((jv5.same (same_del (l := D) x6)).same del_upd_same).app (.cons ⟨v, rfl, .of ?_⟩ .nil)
      rw [del_ne nvD]
      show upd _ D _ v = _
      rw [upd_ne nvD]
      exact hv
    · rintro σ H3 ⟨⟨y3, y4, y5, y6, y7, y8, rfl⟩, s3, vs3, hD3, jv3⟩
      rw [lws, List.take_of_length_le (Nat.le_refl _)] at jv3
      have g0 : ∀ j ∈ js.map (jmv pl), GoodJ rows j := fun j hj => by
        obtain ⟨i, hi, rfl⟩ := List.mem_map.mp hj
        exact jrow_good mu (p := (plE pl i.1, plE pl i.2)) (gj i hi).pr (gj i hi).n1 (gj i hi).n2
      have l5 := jv3.len
      rw [List.length_map] at l5
      have d5 : Dt H3 (.ref D) (.list ((js.map (jmv pl)).map joinT)) := .lst hD3 (by omega) ((jv3.same del_sub).dt g0)
      refine ⟨_, rfl, ?_⟩
      delta tNil
      try dsimp only
      refine sort_okN d5 (fun d hd => by obtain ⟨e, _, rfl⟩ := List.mem_map.mp hd; exact ⟨(low_joinT e).nd, (low_joinT e).dep⟩) (alike_joins _) (sortable_joins _) fun pj H6 wsj npj ews rws s6 => ?_
      rw [sortD_J] at rws
      have h03 := s3.trans (del_sub (H := H3) (p := D))
      exact k pj wsj H6 (h03.free npj) (h03.trans s6) ews (joins_back rws)
end
end Toy
set_option Elab.async false
set_option linter.all false
set_option maxRecDepth 100000
set_option maxHeartbeats 4000000
namespace Toy
open PySem PySem.Spec PyProof.Rows L2
/-! ### two drawings beside one another -/
/-- the places of a drawing's corners, from f on, and of its legs among all legs, behind c corners -/
def bsP (f m c : Nat) (legs lg : Rows2) : List Nat := ((List.range m).map fun i => f + i) ++ lg.map fun g => c + legs.idxOf g
theorem bsP_len (f m c : Nat) (legs lg : Rows2) : (bsP f m c legs lg).length = m + lg.length := by
  unfold bsP
  rw [List.length_append, List.length_map, List.length_range, List.length_map]
theorem bsP_lo {f m c i : Nat} {legs lg : Rows2} (h : i < m) : plN (bsP f m c legs lg) i = f + i := by
  unfold plN bsP
  rw [List.getElem?_append_left (by rw [List.length_map, List.length_range]; exact h), List.getElem?_map, List.getElem?_range h]
  rfl
theorem bsP_hi {f m c j : Nat} {legs lg : Rows2} {g : Str × Str} (h : lg[j]? = some g) : plN (bsP f m c legs lg) (m + j) = c + legs.idxOf g := by
  unfold plN bsP
  rw [List.getElem?_append_right (by rw [List.length_map, List.length_range]; omega), List.length_map, List.length_range, Nat.add_sub_cancel_left, List.getElem?_map, h]
  rfl
theorem legE_map (F : Nat → Nat) (G : Str × Str → Nat) : ∀ (lg : Rows2) (i : Nat), (∀ j g, lg[j]? = some g → F (i + j) = G g) → (legE i lg).map (fun e => (F e.1, e.2)) = lg.map fun g => (G g, g.2)
  | [], _, _ => rfl
  | g :: lg, i, h => by
    show (F i, g.2) :: (legE (i + 1) lg).map _ = (G g, g.2) :: lg.map _
    rw [legE_map F G lg (i + 1) fun j x e => by
      have q := h (j + 1) x e
      rw [show i + 1 + j = i + (j + 1) by omega]
      exact q]
    have q := h 0 g rfl
    rw [Nat.add_zero] at q
    rw [q]
theorem cornE_app (ks : List KRow) : ∀ (as bs : List Str) (i : Nat), cornE ks i (as ++ bs) = cornE ks i as ++ cornE ks (i + as.length) bs
  | [], bs, i => rfl
  | a :: as, bs, i => by
    show (kEnds ks a).map _ ++ cornE ks (i + 1) (as ++ bs) = ((kEnds ks a).map _ ++ cornE ks (i + 1) as) ++ cornE ks (i + (as.length + 1)) bs
    rw [cornE_app ks as bs (i + 1), List.append_assoc, show i + 1 + as.length = i + (as.length + 1) by omega]
theorem ends_bs (ks : List KRow) (cs : List Str) (lg legs : Rows2) (f c : Nat) : (allE ks cs lg).map (plE (bsP f cs.length c legs lg)) = cornE ks f cs ++ lg.map fun g => (c + legs.idxOf g, g.2) := by
  unfold allE
  rw [List.map_append]
  congr 1
  · rw [cornE_flat ks cs 0, cornE_flat ks cs f, List.map_flatMap]
    refine flat_congr fun j hj => ?_
    have hj2 := List.mem_range.mp hj
    rw [List.map_map]
    refine List.map_congr_left fun s _ => ?_
    show (plN (bsP f cs.length c legs lg) (0 + j), s) = (f + j, s)
    rw [Nat.zero_add, bsP_lo hj2]
  · exact legE_map (plN (bsP f cs.length c legs lg)) (fun g => c + legs.idxOf g) lg cs.length fun j g h => bsP_hi h
theorem legs_bs {legs : Rows2} (nd : legs.Nodup) (c : Nat) : legE c legs = legs.map fun g => (c + legs.idxOf g, g.2) := by
  have q := legE_map (fun n => n) (fun g => c + legs.idxOf g) legs c fun j g h => by
    obtain ⟨l, e⟩ := List.getElem?_eq_some_iff.mp h
    rw [← e, nd.idxOf_getElem j l]
  rw [← q]
  exact ((List.map_congr_left (g := id) fun e _ => rfl).trans (List.map_id _)).symm
def besJ (P1 P2 : List Nat) (js1 js2 : List JRow) : List JRow := sortJ (js1.map (jmv P1) ++ js2.map (jmv P2))
theorem besJ_moved (P1 P2 : List Nat) (js1 js2 : List JRow) : sortJ (movedJ P1 js1 ++ movedJ P2 js2) = besJ P1 P2 js1 js2 := sortJ_perm_eq ((sortJ_perm _).append (sortJ_perm _))
theorem besJ_ends {ks : List KRow} {cs1 cs2 : List Str} {lg1 lg2 legs : Rows2} {js1 js2 : List JRow} (nd : legs.Nodup) (pl : legs.Perm (lg1 ++ lg2)) (p1 : (js1.map (·.1) ++ js1.map (·.2)).Perm (allE ks cs1 lg1)) (p2 : (js2.map (·.1) ++ js2.map (·.2)).Perm (allE ks cs2 lg2)) :
    ((js1.map (jmv (bsP 0 cs1.length (cs1.length + cs2.length) legs lg1)) ++ js2.map (jmv (bsP cs1.length cs2.length (cs1.length + cs2.length) legs lg2))).map (·.1) ++ (js1.map (jmv (bsP 0 cs1.length (cs1.length + cs2.length) legs lg1)) ++ js2.map (jmv (bsP cs1.length cs2.length (cs1.length + cs2.length) legs lg2))).map (·.2)).Perm (allE ks (cs1 ++ cs2) legs) := by
  generalize hP : bsP 0 cs1.length (cs1.length + cs2.length) legs lg1 = P1
  generalize hQ : bsP cs1.length cs2.length (cs1.length + cs2.length) legs lg2 = P2
  have q1 := (jmv_split P1 js1).trans (p1.map (plE P1))
  have q2 := (jmv_split P2 js2).trans (p2.map (plE P2))
  rw [← hP, ends_bs ks cs1 lg1 legs 0] at q1
  rw [← hQ, ends_bs ks cs2 lg2 legs cs1.length] at q2
  rw [hP] at q1
  rw [hQ] at q2
  rw [List.map_append, List.map_append]
  have mid : ∀ (a b c d : List End), (a ++ b ++ (c ++ d)).Perm (a ++ c ++ (b ++ d)) := fun a b c d => by
    rw [List.append_assoc, List.append_assoc]
    refine List.Perm.append_left a ?_
    rw [← List.append_assoc, ← List.append_assoc]
    exact List.Perm.append_right d List.perm_append_comm
  refine (mid _ _ _ _).trans ((q1.append q2).trans ((mid _ _ _ _).trans ?_))
  unfold allE
  rw [cornE_app, Nat.zero_add, List.length_append, legs_bs nd]
  refine List.Perm.append_left _ ?_
  rw [← List.map_append]
  exact (pl.map _).symm
theorem bs_good {rows : Rows2} (mu : Mut rows) {P1 P2 : List Nat} {js1 js2 : List JRow} (g1 : ∀ j ∈ js1, GoodJ rows j) (g2 : ∀ j ∈ js2, GoodJ rows j) : ∀ j ∈ js1.map (jmv P1) ++ js2.map (jmv P2), GoodJ rows j := fun j hj => by
  rcases List.mem_append.mp hj with z | z
  · obtain ⟨i, hi, rfl⟩ := List.mem_map.mp z
    exact jmv_good mu (g1 i hi)
  · obtain ⟨i, hi, rfl⟩ := List.mem_map.mp z
    exact jmv_good mu (g2 i hi)
/-- the legs of both, in order -/
theorem LegsG.both {rows lg1 lg2 : Rows2} (h1 : LegsG rows lg1) (h2 : LegsG rows lg2) (nd : ((lg1 ++ lg2).map (·.1)).Nodup) (l6 : (lg1 ++ lg2).length ≤ 6) : LegsG rows (sortR (lg1 ++ lg2)) := by
  have p := sortR_perm (lg1 ++ lg2)
  refine ⟨by rw [p.length_eq]; exact l6, (p.map _).nodup_iff.mpr nd, fun g hg => ?_, fun g hg => ?_, sortR_pw _⟩
  · rcases List.mem_append.mp (p.mem_iff.mp hg) with z | z
    · exact h1.nm g z
    · exact h2.nm g z
  · rcases List.mem_append.mp (p.mem_iff.mp hg) with z | z
    · exact h1.so g z
    · exact h2.so g z
theorem nodup_of_names {lg : Rows2} (nd : (lg.map (·.1)).Nodup) : lg.Nodup := by
  unfold List.Nodup at *
  rw [List.pairwise_map] at nd
  exact nd.imp fun h e => h (by rw [e])
end Toy
set_option Elab.async false
set_option linter.all false
set_option maxRecDepth 100000
set_option maxHeartbeats 4000000
namespace Toy
open PySem PySem.Spec PyProof.Rows L2
/-! ### a join cut -/
def cutL (left : List JRow) (P : List Nat) (m : Nat) (legs : Rows2) (j : JRow) (L1 L2 : Str × Str) : List JRow := left.map (jmv P) ++ [(j.1, (m + legs.idxOf L1, L1.2)), (j.2, (m + legs.idxOf L2, L2.2))]
theorem cut_ends {ks : List KRow} {cs : List Str} {lg legs : Rows2} {js left : List JRow} {j : JRow} {L1 L2 : Str × Str} (nd : legs.Nodup) (pl : legs.Perm (lg ++ [L1, L2])) (pj : js.Perm (j :: left)) (p : (js.map (·.1) ++ js.map (·.2)).Perm (allE ks cs lg)) (i1 : j.1.1 < cs.length) (i2 : j.2.1 < cs.length) :
    ((cutL left (bsP 0 cs.length cs.length legs lg) cs.length legs j L1 L2).map (·.1) ++ (cutL left (bsP 0 cs.length cs.length legs lg) cs.length legs j L1 L2).map (·.2)).Perm (allE ks cs legs) := by
  generalize hP : bsP 0 cs.length cs.length legs lg = P
  have e1 : plE P j.1 = j.1 := by
    rw [← hP]
    unfold plE
    rw [bsP_lo i1, Nat.zero_add]
  have e2 : plE P j.2 = j.2 := by
    rw [← hP]
    unfold plE
    rw [bsP_lo i2, Nat.zero_add]
  have q0 : ((j :: left).map (·.1) ++ (j :: left).map (·.2)).Perm (allE ks cs lg) := ((pj.symm.map _).append (pj.symm.map _)).trans p
  have q1 := q0.map (plE P)
  rw [← hP, ends_bs ks cs lg legs 0, hP] at q1
  have q2 := jmv_split P left
  -- the ends of what is left, with the join's own
  have q3 : (j.1 :: j.2 :: ((left.map (jmv P)).map (·.1) ++ (left.map (jmv P)).map (·.2))).Perm (cornE ks 0 cs ++ lg.map fun g => (cs.length + legs.idxOf g, g.2)) := by
    refine List.Perm.trans ?_ q1
    rw [List.map_append, List.map_cons, List.map_cons, List.map_cons, List.map_cons, e1, e2, List.cons_append]
    refine List.Perm.cons _ ?_
    refine (List.Perm.cons _ (q2.trans (by rw [List.map_append]))).trans ?_
    exact (List.perm_middle (a := j.2) (l₁ := (left.map (·.1)).map (plE P)) (l₂ := (left.map (·.2)).map (plE P))).symm
  unfold cutL
  rw [List.map_append, List.map_append]
  show (((left.map (jmv P)).map (·.1) ++ [j.1, j.2]) ++ ((left.map (jmv P)).map (·.2) ++ [(cs.length + legs.idxOf L1, L1.2), (cs.length + legs.idxOf L2, L2.2)])).Perm _
  have q4 : (((left.map (jmv P)).map (·.1) ++ [j.1, j.2]) ++ ((left.map (jmv P)).map (·.2) ++ [(cs.length + legs.idxOf L1, L1.2), (cs.length + legs.idxOf L2, L2.2)])).Perm ((j.1 :: j.2 :: ((left.map (jmv P)).map (·.1) ++ (left.map (jmv P)).map (·.2))) ++ [(cs.length + legs.idxOf L1, L1.2), (cs.length + legs.idxOf L2, L2.2)]) := by
    rw [← List.append_assoc]
    refine List.Perm.append_right _ ?_
    have z : ((left.map (jmv P)).map (·.1) ++ [j.1, j.2]).Perm ([j.1, j.2] ++ (left.map (jmv P)).map (·.1)) := List.perm_append_comm
    exact (List.Perm.append_right _ z)
  refine q4.trans ((List.Perm.append_right _ q3).trans ?_)
  unfold allE
  rw [legs_bs nd, List.append_assoc]
  refine List.Perm.append_left _ ?_
  refine List.Perm.trans ?_ (pl.map _).symm
  rw [List.map_append]
  exact List.Perm.refl _
theorem cut_good {rows : Rows2} (mu : Mut rows) {left : List JRow} {P : List Nat} {m : Nat} {legs : Rows2} {j : JRow} {L1 L2 : Str × Str} (gl : ∀ i ∈ left, GoodJ rows i) (gj : GoodJ rows j) (h1 : L1.2 = j.2.2) (h2 : L2.2 = j.1.2) (i1 : j.1.1 < m) (i2 : j.2.1 < m) (mm : (j.2.2, j.1.2) ∈ rows) : ∀ i ∈ cutL left P m legs j L1 L2, GoodJ rows i := fun i hi => by
  unfold cutL at hi
  rcases List.mem_append.mp hi with z | z
  · obtain ⟨k, hk, rfl⟩ := List.mem_map.mp z
    exact jmv_good mu (gl k hk)
  · have z2 : i = (j.1, (m + legs.idxOf L1, L1.2)) ∨ i = (j.2, (m + legs.idxOf L2, L2.2)) := by simpa using z
    rcases z2 with rfl | rfl
    · exact ⟨by show (j.1.2, L1.2) ∈ rows; rw [h1]; exact gj.pr, (endLe_iff _ _).mpr (.inl (by show j.1.1 < m + legs.idxOf L1; omega)), gj.n1, by show nameS L1.2 = true; rw [h1]; exact gj.n2⟩
    · exact ⟨by show (j.2.2, L2.2) ∈ rows; rw [h2]; exact mm, (endLe_iff _ _).mpr (.inl (by show j.2.1 < m + legs.idxOf L2; omega)), gj.n2, by show nameS L2.2 = true; rw [h2]; exact gj.n1⟩
end Toy
set_option Elab.async false
set_option linter.all false
set_option maxRecDepth 100000
set_option maxHeartbeats 4000000
namespace Toy
open PySem PySem.Spec PyProof.Rows L2
/-! ### two legs joined -/
/-- the end to which the end at place p is joined -/
def beyJ (p : Nat) : List JRow → Option End
  | [] => none
  | j :: r => if j.1.1 = p then some j.2 else if j.2.1 = p then some j.1 else beyJ p r
/-- how often the place p stands in joins -/
def cntP (p : Nat) : List JRow → Nat
  | [] => 0
  | j :: r => (if j.1.1 = p then 1 else 0) + (if j.2.1 = p then 1 else 0) + cntP p r
theorem cntP_cons (p : Nat) (j : JRow) (r : List JRow) : cntP p (j :: r) = (if j.1.1 = p then 1 else 0) + (if j.2.1 = p then 1 else 0) + cntP p r := rfl
theorem cntP_eq (p : Nat) : ∀ js : List JRow, (js.map (·.1) ++ js.map (·.2)).countP (fun e => decide (e.1 = p)) = cntP p js
  | [] => rfl
  | j :: r => by
    have ih := cntP_eq p r
    rw [List.countP_append] at ih ⊢
    rw [List.map_cons, List.map_cons, List.countP_cons, List.countP_cons]
    rw [cntP_cons]
    simp only [decide_eq_true_eq]
    omega
theorem cnt_perm {p : Nat} {as bs : List JRow} (h : as.Perm bs) : cntP p as = cntP p bs := by
  rw [← cntP_eq, ← cntP_eq]
  exact ((h.map _).append (h.map _)).countP_eq _
theorem cnt_none {p : Nat} : ∀ {js : List JRow}, cntP p js = 0 → ∀ j ∈ js, j.1.1 ≠ p ∧ j.2.1 ≠ p
  | [], _, _, h => nomatch h
  | i :: r, c, j, h => by
    rw [cntP_cons] at c
    rcases List.mem_cons.mp h with rfl | h
    · by_cases a : j.1.1 = p
      · rw [if_pos a] at c
        omega
      · by_cases b : j.2.1 = p
        · rw [if_pos b] at c
          omega
        · exact ⟨a, b⟩
    · exact cnt_none (by omega) j h
/-- the one join at the place p, what stands beyond, and the others -/
theorem cnt_one {p : Nat} : ∀ {js : List JRow}, cntP p js = 1 → ∃ (j : JRow) (e : End) (rest : List JRow), js.Perm (j :: rest) ∧ cntP p rest = 0 ∧ beyJ p js = some e ∧ e.1 ≠ p ∧ ((j.1.1 = p ∧ e = j.2) ∨ (j.2.1 = p ∧ e = j.1))
  | [], c => by simp [cntP] at c
  | j :: r, c => by
    rw [cntP_cons] at c
    by_cases a : j.1.1 = p
    · rw [if_pos a] at c
      have b : j.2.1 ≠ p := fun b => by rw [if_pos b] at c; omega
      rw [if_neg b] at c
      exact ⟨j, j.2, r, List.Perm.refl _, by omega, by unfold beyJ; rw [if_pos a], b, .inl ⟨a, rfl⟩⟩
    · rw [if_neg a] at c
      by_cases b : j.2.1 = p
      · rw [if_pos b] at c
        exact ⟨j, j.1, r, List.Perm.refl _, by omega, by unfold beyJ; rw [if_neg a, if_pos b], a, .inr ⟨b, rfl⟩⟩
      · rw [if_neg b] at c
        obtain ⟨i, e, rest, h1, h2, h3, h4, h5⟩ := cnt_one (p := p) (js := r) (by omega)
        refine ⟨i, e, j :: rest, (h1.cons j).trans (List.Perm.swap i j rest), ?_, ?_, h4, h5⟩
        · rw [cntP_cons, if_neg a, if_neg b, h2]
        · unfold beyJ
          rw [if_neg a, if_neg b]
          exact h3
theorem cornE_lt (ks : List KRow) : ∀ (cs : List Str) (i : Nat), ∀ e ∈ cornE ks i cs, e.1 < i + cs.length
  | [], _, _, h => nomatch h
  | c :: cs, i, e, h => by
    rcases List.mem_append.mp (show e ∈ (kEnds ks c).map (fun s => (i, s)) ++ cornE ks (i + 1) cs from h) with h | h
    · obtain ⟨s, _, rfl⟩ := List.mem_map.mp h
      rw [List.length_cons]
      show i < _
      omega
    · have := cornE_lt ks cs (i + 1) e h
      rw [List.length_cons]
      omega
theorem legE_ge : ∀ (lg : Rows2) (m : Nat), ∀ e ∈ legE m lg, m ≤ e.1
  | [], _, _, h => nomatch h
  | g :: lg, m, e, h => by
    rcases List.mem_cons.mp (show e ∈ (m, g.2) :: legE (m + 1) lg from h) with rfl | h
    · exact Nat.le_refl _
    · have := legE_ge lg (m + 1) e h
      omega
theorem legE_cnt : ∀ (lg : Rows2) (m i : Nat), i < lg.length → (legE m lg).countP (fun e => decide (e.1 = m + i)) = 1
  | [], _, _, h => nomatch h
  | g :: lg, m, 0, _ => by
    show ((m, g.2) :: legE (m + 1) lg).countP _ = 1
    rw [List.countP_cons]
    have z : (legE (m + 1) lg).countP (fun e => decide (e.1 = m + 0)) = 0 := by
      rw [List.countP_eq_zero]
      intro e he
      have := legE_ge lg (m + 1) e he
      simp
      omega
    rw [z]
    simp
  | g :: lg, m, i + 1, h => by
    show ((m, g.2) :: legE (m + 1) lg).countP _ = 1
    rw [List.countP_cons]
    have ih := legE_cnt lg (m + 1) i (by rw [List.length_cons] at h; omega)
    rw [show m + (i + 1) = m + 1 + i by omega, ih]
    have : ¬ m = m + 1 + i := by omega
    simp [this]
theorem legE_at : ∀ (lg : Rows2) (m i : Nat) (e : End), e ∈ legE m lg → e.1 = m + i → ∃ g, lg[i]? = some g ∧ e.2 = g.2
  | [], _, _, _, h, _ => nomatch h
  | g :: lg, m, i, e, h, q => by
    rcases List.mem_cons.mp (show e ∈ (m, g.2) :: legE (m + 1) lg from h) with rfl | h
    · have : i = 0 := by
        have q : m = m + i := q
        omega
      subst this
      exact ⟨g, rfl, rfl⟩
    · have := legE_ge lg (m + 1) e h
      obtain ⟨g2, h1, h2⟩ := legE_at lg (m + 1) (i - 1) e h (by omega)
      refine ⟨g2, ?_, h2⟩
      rw [show i = (i - 1) + 1 by omega, List.getElem?_cons_succ]
      exact h1
section
variable {ks : List KRow} {cs : List Str} {lg : Rows2} {js : List JRow}
theorem leg_once (p : (js.map (·.1) ++ js.map (·.2)).Perm (allE ks cs lg)) {i : Nat} (h : i < lg.length) : cntP (cs.length + i) js = 1 := by
  rw [← cntP_eq, p.countP_eq]
  unfold allE
  rw [List.countP_append, legE_cnt lg cs.length i h]
  rw [List.countP_eq_zero.mpr fun e he => by
    have := cornE_lt ks cs 0 e he
    simp
    omega]
theorem leg_sort (p : (js.map (·.1) ++ js.map (·.2)).Perm (allE ks cs lg)) {i : Nat} {g : Str × Str} (h : lg[i]? = some g) {e : End} (he : e ∈ js.map (·.1) ++ js.map (·.2)) (q : e.1 = cs.length + i) : e = (cs.length + i, g.2) := by
  have h2 := p.mem_iff.mp he
  unfold allE at h2
  rcases List.mem_append.mp h2 with z | z
  · have := cornE_lt ks cs 0 e z
    omega
  · obtain ⟨g2, h3, h4⟩ := legE_at lg cs.length i e z q
    rw [h] at h3
    cases h3
    exact Prod.ext q h4
end
end Toy
set_option Elab.async false
set_option linter.all false
set_option maxRecDepth 100000
set_option maxHeartbeats 4000000
namespace Toy
open PySem PySem.Spec PyProof.Rows L2
/-- the legs and the joins that are left -/
def sewL (lg : Rows2) (n1 n2 : Str) : Rows2 := lg.filter fun g => decide (g.1 ≠ n1 ∧ g.1 ≠ n2)
def farJ (p1 p2 : Nat) (j : JRow) : Bool := decide ((j.1.1 ≠ p1 ∧ j.1.1 ≠ p2) ∧ (j.2.1 ≠ p1 ∧ j.2.1 ≠ p2))
def sewR (p1 p2 : Nat) (js : List JRow) : List JRow := js.filter (farJ p1 p2)
structure SewAt (js : List JRow) (p1 p2 : Nat) (g1 g2 : Str × Str) (e1 e2 : End) : Prop where
  b1 : beyJ p1 js = some e1
  b2 : beyJ p2 js = some e2
  n1 : e1.1 ≠ p1
  n2 : e2.1 ≠ p2
  m1 : e1 ∈ js.map (·.1) ++ js.map (·.2)
  m2 : e2 ∈ js.map (·.1) ++ js.map (·.2)
  r1 : ((p1, g1.2), e1) ∈ js ∨ (e1, (p1, g1.2)) ∈ js
  r2 : ((p2, g2.2), e2) ∈ js ∨ (e2, (p2, g2.2)) ∈ js
theorem sew_at {ks : List KRow} {cs : List Str} {lg : Rows2} {js : List JRow} (p : (js.map (·.1) ++ js.map (·.2)).Perm (allE ks cs lg)) {i1 i2 : Nat} {g1 g2 : Str × Str} (h1 : lg[i1]? = some g1) (h2 : lg[i2]? = some g2) :
    ∃ e1 e2, SewAt js (cs.length + i1) (cs.length + i2) g1 g2 e1 e2 := by
  have one : ∀ {i : Nat} {g : Str × Str}, lg[i]? = some g → ∃ e, beyJ (cs.length + i) js = some e ∧ e.1 ≠ cs.length + i ∧ e ∈ js.map (·.1) ++ js.map (·.2) ∧ (((cs.length + i, g.2), e) ∈ js ∨ (e, (cs.length + i, g.2)) ∈ js) := fun {i g} h => by
    obtain ⟨j, e, r, q1, q2, q3, q4, q5⟩ := cnt_one (leg_once p (List.getElem?_eq_some_iff.mp h).1)
    have hj : j ∈ js := q1.mem_iff.mpr List.mem_cons_self
    have m1 : j.1 ∈ js.map (·.1) ++ js.map (·.2) := List.mem_append_left _ (List.mem_map_of_mem (f := fun j : JRow => j.1) hj)
    have m2 : j.2 ∈ js.map (·.1) ++ js.map (·.2) := List.mem_append_right _ (List.mem_map_of_mem (f := fun j : JRow => j.2) hj)
    rcases q5 with ⟨a, rfl⟩ | ⟨a, rfl⟩
    · refine ⟨j.2, q3, q4, m2, .inl ?_⟩
      rw [← leg_sort p h m1 a]
      exact hj
    · refine ⟨j.1, q3, q4, m1, .inr ?_⟩
      rw [← leg_sort p h m2 a]
      exact hj
  obtain ⟨e1, a1, a2, a3, a4⟩ := one h1
  obtain ⟨e2, b1, b2, b3, b4⟩ := one h2
  exact ⟨e1, e2, a1, b1, a2, b2, a3, b3, a4, b4⟩
theorem ends_cons (j : JRow) (js : List JRow) : ((j :: js).map (·.1) ++ (j :: js).map (·.2)).Perm (j.1 :: j.2 :: (js.map (·.1) ++ js.map (·.2))) := by
  rw [List.map_cons, List.map_cons, List.cons_append]
  exact List.Perm.cons _ List.perm_middle
/-- the two joins of the legs, and those that are left -/
theorem sew_split {ks : List KRow} {cs : List Str} {lg : Rows2} {js : List JRow} (p : (js.map (·.1) ++ js.map (·.2)).Perm (allE ks cs lg)) {i1 i2 : Nat} (ne : i1 ≠ i2) {g1 g2 : Str × Str} (h1 : lg[i1]? = some g1) (h2 : lg[i2]? = some g2) {e1 e2 : End} (S : SewAt js (cs.length + i1) (cs.length + i2) g1 g2 e1 e2) (x1 : e1.1 ≠ cs.length + i2) :
    e2.1 ≠ cs.length + i1 ∧ (js.map (·.1) ++ js.map (·.2)).Perm ((cs.length + i1, g1.2) :: e1 :: (cs.length + i2, g2.2) :: e2 :: ((sewR (cs.length + i1) (cs.length + i2) js).map (·.1) ++ (sewR (cs.length + i1) (cs.length + i2) js).map (·.2))) := by
  generalize eP : cs.length + i1 = p1 at *
  generalize eQ : cs.length + i2 = p2 at *
  have pq : p1 ≠ p2 := by omega
  have c1 : cntP p1 js = 1 := by rw [← eP]; exact leg_once p (List.getElem?_eq_some_iff.mp h1).1
  have c2 : cntP p2 js = 1 := by rw [← eQ]; exact leg_once p (List.getElem?_eq_some_iff.mp h2).1
  -- the join at the first
  obtain ⟨j1, hj1, f1⟩ : ∃ j1 ∈ js, (j1 = ((p1, g1.2), e1) ∨ j1 = (e1, (p1, g1.2))) := S.r1.elim (fun h => ⟨_, h, .inl rfl⟩) fun h => ⟨_, h, .inr rfl⟩
  obtain ⟨j2, hj2, f2⟩ : ∃ j2 ∈ js, (j2 = ((p2, g2.2), e2) ∨ j2 = (e2, (p2, g2.2))) := S.r2.elim (fun h => ⟨_, h, .inl rfl⟩) fun h => ⟨_, h, .inr rfl⟩
  have n12 : j2 ≠ j1 := fun e => by
    rcases f1 with a | a <;> rcases f2 with b | b <;> rw [a, b] at e <;> injection e with ea eb
    · exact pq (congrArg Prod.fst ea).symm
    · exact x1 (congrArg Prod.fst eb).symm
    · exact x1 (congrArg Prod.fst ea).symm
    · exact pq (congrArg Prod.fst eb).symm
  have q1 := List.perm_cons_erase hj1
  have hj2' : j2 ∈ js.erase j1 := (List.mem_erase_of_ne n12).mpr hj2
  have q2 := List.perm_cons_erase hj2'
  have q3 : js.Perm (j1 :: j2 :: (js.erase j1).erase j2) := q1.trans (q2.cons j1)
  generalize (js.erase j1).erase j2 = r at q3
  have k1 := cnt_perm (p := p1) q3
  have k2 := cnt_perm (p := p2) q3
  rw [c1] at k1
  rw [c2] at k2
  have y2 : e2.1 ≠ p1 := fun e => by
    rw [cntP_cons, cntP_cons] at k1
    rcases f1 with a | a <;> rcases f2 with b | b <;> subst a <;> subst b <;> simp [e] at k1 <;> omega
  have z1 : cntP p1 r = 0 := by
    rw [cntP_cons, cntP_cons] at k1
    rcases f1 with a | a <;> rcases f2 with b | b <;> subst a <;> subst b <;> simp [S.n1, y2, pq, Ne.symm pq] at k1 <;> omega
  have z2 : cntP p2 r = 0 := by
    rw [cntP_cons, cntP_cons] at k2
    rcases f1 with a | a <;> rcases f2 with b | b <;> subst a <;> subst b <;> simp [S.n2, x1, pq, Ne.symm pq] at k2 <;> omega
  have q4 : (sewR p1 p2 js).Perm r := by
    have q5 := q3.filter (farJ p1 p2)
    have d1 : farJ p1 p2 j1 = false := by
      unfold farJ
      rcases f1 with a | a <;> subst a <;> simp
    have d2 : farJ p1 p2 j2 = false := by
      unfold farJ
      rcases f2 with a | a <;> subst a <;> simp
    rw [List.filter_cons_of_neg (by rw [d1]; decide), List.filter_cons_of_neg (by rw [d2]; decide)] at q5
    have : r.filter (farJ p1 p2) = r := List.filter_eq_self.mpr fun j hj => by
      obtain ⟨a, b⟩ := cnt_none z1 j hj
      obtain ⟨c, d⟩ := cnt_none z2 j hj
      unfold farJ
      simp [a, b, c, d]
    rw [this] at q5
    exact q5
  refine ⟨y2, ?_⟩
  have w1 : (js.map (·.1) ++ js.map (·.2)).Perm ((j1 :: j2 :: r).map (·.1) ++ (j1 :: j2 :: r).map (·.2)) := (q3.map _).append (q3.map _)
  refine w1.trans ((ends_cons j1 (j2 :: r)).trans ?_)
  have w2 := ends_cons j2 r
  have w3 : (r.map (·.1) ++ r.map (·.2)).Perm ((sewR p1 p2 js).map (·.1) ++ (sewR p1 p2 js).map (·.2)) := ((q4.symm.map _).append (q4.symm.map _))
  have w4 := w2.trans ((w3.cons _).cons _)
  have s1 : ∀ (l : List End), (j1.1 :: j1.2 :: l).Perm ((p1, g1.2) :: e1 :: l) := fun l => by
    rcases f1 with a | a <;> subst a
    · exact List.Perm.refl _
    · exact List.Perm.swap _ _ _
  have s2 : ∀ (l : List End), (j2.1 :: j2.2 :: l).Perm ((p2, g2.2) :: e2 :: l) := fun l => by
    rcases f2 with a | a <;> subst a
    · exact List.Perm.refl _
    · exact List.Perm.swap _ _ _
  exact (s1 _).trans (((w4.trans (s2 _)).cons _).cons _)
theorem sewL_perm {lg : Rows2} (nd : (lg.map (·.1)).Nodup) {g1 g2 : Str × Str} (h1 : g1 ∈ lg) (h2 : g2 ∈ lg) (ne : g1.1 ≠ g2.1) : lg.Perm (g1 :: g2 :: sewL lg g1.1 g2.1) := by
  have nl := nodup_of_names nd
  have q1 := List.perm_cons_erase h1
  have ne2 : g2 ≠ g1 := fun e => ne (by rw [e])
  have q2 := List.perm_cons_erase ((List.mem_erase_of_ne ne2).mpr h2)
  have q3 : lg.Perm (g1 :: g2 :: (lg.erase g1).erase g2) := q1.trans (q2.cons g1)
  generalize er : (lg.erase g1).erase g2 = r at q3
  have nr := q3.nodup_iff.mp nl
  have ndn := (q3.map (·.1)).nodup_iff.mp nd
  rw [List.map_cons, List.map_cons, List.nodup_cons, List.nodup_cons] at ndn
  obtain ⟨a1, a2, a3⟩ := ndn
  have q5 := q3.filter fun g => decide (g.1 ≠ g1.1 ∧ g.1 ≠ g2.1)
  rw [List.filter_cons_of_neg (by simp), List.filter_cons_of_neg (by simp)] at q5
  have : (r.filter fun g => decide (g.1 ≠ g1.1 ∧ g.1 ≠ g2.1)) = r := List.filter_eq_self.mpr fun g hg => by
    have b1 : g.1 ≠ g1.1 := fun e => a1 (List.mem_cons_of_mem _ (by rw [← e]; exact List.mem_map_of_mem (f := fun g : Str × Str => g.1) hg))
    have b2 : g.1 ≠ g2.1 := fun e => a2 (by rw [← e]; exact List.mem_map_of_mem (f := fun g : Str × Str => g.1) hg)
    simp [b1, b2]
  rw [this] at q5
  exact q3.trans ((q5.symm.cons _).cons _)
/-- the joins of the drawing without two legs, whose ends are joined -/
def sewJ (m : Nat) (lg legs : Rows2) (p1 p2 : Nat) (e1 e2 : End) (js : List JRow) : List JRow := (sewR p1 p2 js ++ [(e1, e2)]).map (jmv (bsP 0 m m legs lg))
theorem sew_ends {ks : List KRow} {cs : List Str} {lg : Rows2} {js : List JRow} (p : (js.map (·.1) ++ js.map (·.2)).Perm (allE ks cs lg)) (nd : (lg.map (·.1)).Nodup) {i1 i2 : Nat} (ne : i1 ≠ i2) {g1 g2 : Str × Str} (h1 : lg[i1]? = some g1) (h2 : lg[i2]? = some g2) {e1 e2 : End} (S : SewAt js (cs.length + i1) (cs.length + i2) g1 g2 e1 e2) (x1 : e1.1 ≠ cs.length + i2) :
    ((sewJ cs.length lg (sewL lg g1.1 g2.1) (cs.length + i1) (cs.length + i2) e1 e2 js).map (·.1) ++ (sewJ cs.length lg (sewL lg g1.1 g2.1) (cs.length + i1) (cs.length + i2) e1 e2 js).map (·.2)).Perm (allE ks cs (sewL lg g1.1 g2.1)) := by
  have nn : g1.1 ≠ g2.1 := fun e => by
    have l1 := (List.getElem?_eq_some_iff.mp h1).1
    have l2 := (List.getElem?_eq_some_iff.mp h2).1
    have z1 := nd.idxOf_getElem i1 (by rw [List.length_map]; exact l1)
    have z2 := nd.idxOf_getElem i2 (by rw [List.length_map]; exact l2)
    rw [List.getElem_map, (List.getElem?_eq_some_iff.mp h1).2] at z1
    rw [List.getElem_map, (List.getElem?_eq_some_iff.mp h2).2] at z2
    rw [← e] at z2
    omega
  have pl := sewL_perm nd (List.mem_of_getElem? h1) (List.mem_of_getElem? h2) nn
  obtain ⟨_, q0⟩ := sew_split p ne h1 h2 S x1
  generalize eL : sewL lg g1.1 g2.1 = legs at pl ⊢
  have ndl : legs.Nodup := by
    have := pl.nodup_iff.mp (nodup_of_names nd)
    rw [List.nodup_cons, List.nodup_cons] at this
    exact this.2.2
  generalize hP : bsP 0 cs.length cs.length legs lg = P
  have q1 := (q0.symm.trans p).map (plE P)
  rw [← hP, ends_bs ks cs lg legs 0, hP] at q1
  have a1 : plE P (cs.length + i1, g1.2) = (cs.length + legs.idxOf g1, g1.2) := by
    rw [← hP]
    unfold plE
    rw [bsP_hi h1]
  have a2 : plE P (cs.length + i2, g2.2) = (cs.length + legs.idxOf g2, g2.2) := by
    rw [← hP]
    unfold plE
    rw [bsP_hi h2]
  rw [List.map_cons, List.map_cons, List.map_cons, List.map_cons, a1, a2] at q1
  have q2 := q1.trans ((pl.map fun g => (cs.length + legs.idxOf g, g.2)).append_left _)
  rw [List.map_cons, List.map_cons] at q2
  -- what is gone stands on both sides
  have q3 : (plE P e1 :: plE P e2 :: ((sewR (cs.length + i1) (cs.length + i2) js).map (·.1) ++ (sewR (cs.length + i1) (cs.length + i2) js).map (·.2)).map (plE P)).Perm (cornE ks 0 cs ++ legs.map fun g => (cs.length + legs.idxOf g, g.2)) := by
    have r1 := q2.trans (List.perm_middle (l₁ := cornE ks 0 cs))
    have r2 := (List.perm_cons _).mp r1
    have r3 := (List.Perm.swap _ _ _).trans (r2.trans (List.perm_middle (l₁ := cornE ks 0 cs)))
    exact (List.perm_cons _).mp r3
  unfold allE
  rw [legs_bs ndl]
  refine List.Perm.trans ?_ q3
  unfold sewJ
  rw [hP]
  have q4 := jmv_split P (sewR (cs.length + i1) (cs.length + i2) js ++ [(e1, e2)])
  refine q4.trans ?_
  rw [← List.map_cons, ← List.map_cons]
  refine List.Perm.map _ ?_
  rw [List.map_append, List.map_append]
  have q5 : ((sewR (cs.length + i1) (cs.length + i2) js ++ [(e1, e2)])).Perm ((e1, e2) :: sewR (cs.length + i1) (cs.length + i2) js) := List.perm_append_comm
  have q6 := ((q5.map (·.1)).append (q5.map (·.2))).trans (ends_cons (e1, e2) _)
  rw [List.map_append, List.map_append] at q6
  exact q6
theorem sew_good {rows : Rows2} (mu : Mut rows) {m p1 p2 : Nat} {lg legs : Rows2} {e1 e2 : End} {js : List JRow} (gj : ∀ j ∈ js, GoodJ rows j) (g : GoodN rows (e1, e2)) : ∀ j ∈ sewJ m lg legs p1 p2 e1 e2 js, GoodJ rows j := fun j hj => by
  unfold sewJ at hj
  obtain ⟨i, hi, rfl⟩ := List.mem_map.mp hj
  have gi : GoodN rows i := by
    rcases List.mem_append.mp hi with z | z
    · exact (gj i (List.mem_filter.mp z).1).gn
    · rw [List.mem_singleton.mp z]
      exact g
  exact jrow_good mu (p := (plE _ i.1, plE _ i.2)) gi.pr gi.n1 gi.n2
end Toy
set_option Elab.async false
set_option linter.all false
set_option maxRecDepth 100000
set_option maxHeartbeats 4000000
namespace Toy
open PySem PySem.Spec PyProof.Rows L2
theorem rgV_frm (m g : Nat) : rgV (m : Int) ((m : Int) + (g : Int)) = intsV ((List.range g).map fun j => m + j) := by
  unfold rgV intsV
  rw [List.map_map]
  have e : ((m : Int) + (g : Int) - (m : Int)).toNat = g := by omega
  rw [e]
  refine List.map_congr_left fun i _ => ?_
  show V.int _ = V.int _
  congr 1
theorem eqv_row (a b : Str × Str) : PyData.eqv (rowT a) (rowT b) = decide (a = b) := by
  show (PyData.eqv (.str a.1) (.str b.1) && (PyData.eqv (.str a.2) (.str b.2) && true)) = _
  rw [eqvS, eqvS, Bool.and_true, ← Bool.decide_and]
  exact decide_eq_decide.mpr ⟨fun h => Prod.ext h.1 h.2, fun h => by rw [h]; exact ⟨rfl, rfl⟩⟩
theorem dtrowG_at {H : Hp} {gs : List V} {lg : Rows2} (r : DtAll H gs (lg.map rowT)) {i : Nat} {y : V} (h : gs[i]? = some y) : ∃ z, lg[i]? = some z ∧ Dt H y (rowT z) := by
  obtain ⟨d, hd, hD⟩ := r.at_ h
  rw [List.getElem?_map] at hd
  cases e : lg[i]? with
  | none =>
    rw [e] at hd
    cases hd
  | some z =>
    rw [e] at hd
    cases hd
    exact ⟨z, rfl, hD⟩
theorem low_row20 (g : Str × Str) : Low 20 (rowT g) := ⟨(low_row g).1, by
  have := (low_row g).2
  omega⟩
end Toy
set_option Elab.async false
set_option linter.all false
set_option maxRecDepth 100000
set_option maxHeartbeats 3200000
/-! dicts whose keys are tuples of texts and whole numbers, wherever these tuples stand (also frozen ones): made by a comprehension, asked by get -/
namespace L2
open PySem PySem.Spec PyProof.Rows Toy
abbrev KVs := List (List Key × Addr × V)
/-- the entries of the dict at a: each key, where it stands, the value -/
def dtO (P : Program) (w : World) (a : Addr) (kvs : KVs) : HO := .ext fun h => kvs.length ≤ sizeLine ∧ (a == sysModules) = false ∧
  ∃ xs : List (List Key × Addr × Value), Paired (fun p q => p.1 = q.1 ∧ p.2.1 = q.2.1 ∧ RelV p.2.2 q.2.2) kvs xs ∧
    ∃ o es ep, h.get? a = some o ∧ o.ExactDict ∧ o.data = .dict es ep ∧ es.toList = xs.map (entryOfKey (tupleKind (mixKind P w))) ∧ (xs.map (·.1)).Nodup
theorem dtO_ok {P P' : Program} {w w' : World} {H : Hp} {h : Heap} {a : Addr} {kvs : KVs} (z : kvs.length ≤ sizeLine) (sm : (a == sysModules) = false) {xs : List (List Key × Addr × Value)} (r : Paired (fun p q => p.1 = q.1 ∧ p.2.1 = q.2.1 ∧ RelV p.2.2 q.2.2) kvs xs)
    (d : h.DictOfH (tupleKind (mixKind P w)) a xs) : ObjOk P' w' H h a (dtO P w a kvs) := by
  obtain ⟨o, es, ep, h1, h2, h3, h4, _, h5⟩ := d
  refine ⟨⟨z, sm, xs, r, o, es, ep, h1, h2, h3, h4, h5⟩, ⟨o, h1⟩, ?_⟩
  rintro g1 g2 ⟨z', sm', xs', r', o', es', ep', k1, k⟩ kp
  exact ⟨z', sm', xs', r', o', es', ep', kp _ k1, k⟩
section
variable {P : Program} {w : World} {H : Hp} {h : Heap} {a : Addr} {kvs : KVs}
theorem tup_key {ks : List Key} (ok : HOk P w H h) (e : TupAt H a (ks.map kV)) : (tupleKind (mixKind P w)).is h ks a := by
  have z : ObjOk P w H h a (.tup (ks.map kV)) := e.rd.ok ok
  obtain ⟨_, its, r, o, h1, h2, n, h3⟩ := z
  exact ⟨o, its.toArray, n, h1, h2, h3, by simpa using items_are r⟩
theorem dtO_rd {P' : Program} {w' : World} (ok : HOk P' w' H h) (e : H a = some (dtO P w a kvs)) : kvs.length ≤ sizeLine ∧ (a == sysModules) = false ∧
    ∃ xs : List (List Key × Addr × Value), Paired (fun p q => p.1 = q.1 ∧ p.2.1 = q.2.1 ∧ RelV p.2.2 q.2.2) kvs xs ∧
      ∃ o es ep, h.get? a = some o ∧ o.ExactDict ∧ o.data = .dict es ep ∧ es.toList = xs.map (entryOfKey (tupleKind (mixKind P w))) ∧ (xs.map (·.1)).Nodup := (ok a _ e).1
theorem paired_mem_right {α β : Type} {F : α → β → Prop} : ∀ {l₁ : List α} {l₂ : List β}, Paired F l₁ l₂ → ∀ y ∈ l₂, ∃ x ∈ l₁, F x y
  | _, _, .nil, _, h => by simp at h
  | _, _, .cons r t, y, h => by
    rcases List.mem_cons.mp h with rfl | h
    · exact ⟨_, List.mem_cons_self, r⟩
    · obtain ⟨x, hx, f⟩ := paired_mem_right t y h
      exact ⟨x, List.mem_cons_of_mem _ hx, f⟩
theorem dtO_dict (ok : HOk P w H h) (e : H a = some (dtO P w a kvs)) (ke : ∀ p ∈ kvs, TupAt H p.2.1 (p.1.map kV)) : kvs.length ≤ sizeLine ∧ (a == sysModules) = false ∧
    ∃ xs : List (List Key × Addr × Value), Paired (fun p q => p.1 = q.1 ∧ p.2.1 = q.2.1 ∧ RelV p.2.2 q.2.2) kvs xs ∧ h.DictOfH (tupleKind (mixKind P w)) a xs := by
  obtain ⟨z, sm, xs, r, o, es, ep, h1, h2, h3, h4, h5⟩ := dtO_rd ok e
  refine ⟨z, sm, xs, r, o, es, ep, h1, h2, h3, h4, fun x hx => ?_, h5⟩
  obtain ⟨p, hp, e1, e2, _⟩ := paired_mem_right r x hx
  rw [← e1, ← e2]
  exact tup_key ok (ke p hp)
theorem kvs_none {k : List Key} : ∀ {kvs : KVs} {xs : List (List Key × Addr × Value)}, Paired (fun p q => p.1 = q.1 ∧ p.2.1 = q.2.1 ∧ RelV p.2.2 q.2.2) kvs xs → k ∉ kvs.map (·.1) → atKey xs k = none
  | _, _, .nil, _ => rfl
  | _, _, @Paired.cons _ _ _ p q ps qs r t, n => by
    have n1 : ¬ q.1 = k := fun z => n (by rw [List.map_cons, r.1, z]; exact List.mem_cons_self)
    have n2 : k ∉ ps.map (·.1) := fun z => n (by rw [List.map_cons]; exact List.mem_cons_of_mem _ z)
    have := kvs_none t n2
    unfold atKey at this ⊢
    rw [List.find?_cons_of_neg (by simpa using n1)]
    exact this
/-- what such a dict holds -/
def kvAt (kvs : KVs) (k : List Key) : Option V := (kvs.find? fun p => decide (p.1 = k)).map fun p => p.2.2
theorem kvs_rel {k : List Key} : ∀ {kvs : KVs} {xs : List (List Key × Addr × Value)}, Paired (fun p q => p.1 = q.1 ∧ p.2.1 = q.2.1 ∧ RelV p.2.2 q.2.2) kvs xs → RelO (kvAt kvs k) ((atKey xs k).map (·.2))
  | _, _, .nil => True.intro
  | _, _, @Paired.cons _ _ _ p q ps qs r t => by
    have ih := kvs_rel (k := k) t
    unfold kvAt atKey at ih ⊢
    by_cases c : q.1 = k
    · rw [List.find?_cons_of_pos (by simpa using r.1.trans c), List.find?_cons_of_pos (by simpa using c)]
      exact r.2.2
    · rw [List.find?_cons_of_neg (by simpa using fun z => c (r.1.symm.trans z)), List.find?_cons_of_neg (by simpa using c)]
      exact ih
end
/-- a key is put into such a dict for the first time -/
theorem dtO_set {X : Cx} {pins : List (Addr × Obj)} {σ : St} {H : Hp} {s : Shared} {E : Value → Shared → Prop} {D b : Addr} {kvs : KVs} {k : List Key} {v : V} {u r : Value} {Q : Unit → Shared → Prop} (hu : X.A.units < cLine) (I : Inv X pins σ H s) (hD : H D = some (dtO X.prog X.w D kvs)) (hz : kvs.length < sizeLine)
    (ke : ∀ p ∈ kvs, TupAt H p.2.1 (p.1.map kV)) (kb : TupAt H b (k.map kV)) (new : k ∉ kvs.map (·.1)) (ry : RelV (.ref b) u) (rv : RelV v r) (h : ∀ s', Inv X pins σ (upd H D (dtO X.prog X.w D (kvs ++ [(k, b, v)]))) s' → Q () s') :
    wpAny (model X.prog X.w) X.A (dictSet D u r) Q E s := by
  cases (show u = Value.ref b from ry)
  obtain ⟨z, sm, xs, rel, dd⟩ := dtO_dict I.hok hD ke
  have hzx : xs.length ≤ sizeLine := by rw [← Paired.length rel]; exact z
  refine wpAny_dictSet_heap (hsz := hzx) (show (tupleKind (mixKind X.prog X.w)).room X.A from hu) (tup_key I.hok kb) dd fun h' dd' hs => h _ ?_
  rw [storedH_new (kvs_none rel new)] at dd'
  have he : ∃ q, h'.get? D = some q := let ⟨q, _, _, hq, _⟩ := dd'; ⟨q, hq⟩
  exact d_write I (by rw [hD]; exact True.intro) hs he (dtO_ok (by rw [List.length_append]; exact hz) sm (Paired.snoc rel ⟨rfl, rfl, rv⟩) dd')
theorem dtO_empty {P P' : Program} {w w' : World} {H : Hp} (h : Heap) (hb : sysModules < h.objs.size) : ObjOk P' w' H (h.push { cls := .type "dict", data := .dict #[] }) h.objs.size (dtO P w h.objs.size []) :=
  dtO_ok (xs := []) (Nat.zero_le _) (beq_eq_false_iff_ne.mpr (Ne.symm (Nat.ne_of_lt hb))) .nil ⟨_, #[], 0, Heap.get?_push_size _ rfl, ⟨rfl, rfl, rfl⟩, rfl, rfl, (fun _ h => nomatch h), List.nodup_nil⟩
section
variable {X : Cx}
/-- {k: v for target in iter if ..}, the keys tuples, none twice: D the new dict -/
def tDcT (P : Program) (w : World) (wi : TI) (g : TG) (tt : TT) (tk tv : TE) (vs : List Nat) : TE := fun σ H Q => wi σ H fun J H1 => ∀ D, H1 D = none → ∃ W : Nat → Nat → Hp → Prop, (∃ m, W 0 m (upd H1 D (dtO P w D []))) ∧ ∀ i m H, W i m H →
  (J.stop i H ∧ Q (.ref D) H) ∨ (J.go i H ∧ ∃ Nx : Hp → Prop, (∀ H', Nx H' → ∃ m', m' < m ∧ W (i + 1) m' H') ∧ ∀ x H', J.yld i H x H' → g x (wipe σ vs) H' fun σ2 H2 => wipe σ2 vs = wipe σ vs ∧ tt σ2 H2 fun b H3 =>
    if b = true then tk σ2 H3 fun y H4 => tv σ2 H4 fun z H5 => ∃ kvs k b, y = .ref b ∧ TupAt H5 b (k.map kV) ∧ (∀ p ∈ kvs, TupAt H5 p.2.1 (p.1.map kV)) ∧ k ∉ kvs.map (·.1) ∧ H5 D = some (dtO P w D kvs) ∧ kvs.length < sizeLine ∧ Nx (upd H5 D (dtO P w D (kvs ++ [(k, b, z)]))) else Nx H3)
theorem pe_dcT {kx vx tg iter : Expr} {ifs : List Expr} {scope : Scope} {own : List (Str × Nat)} {pos : Pos} {wi : TI} {g : TG} {tt : TT} {tk tv : TE} (hc : X.calm = true) (hu : X.A.units < cLine) (hN : X.N.Nodup) (hi : PI X tg iter wi) (ok : BlkOk X.N X.env.scope scope own)
    (hg : ∀ (s : Shared) (H : Hp) (C : Addr) (cl : List (Str × Addr)) (fp : List Addr), PG (X.blk s H scope (compEnvC scope cl C X.env) fp) tg g) (ht : ∀ (s : Shared) (H : Hp) (C : Addr) (cl : List (Str × Addr)) (fp : List Addr), PTs (X.blk s H scope (compEnvC scope cl C X.env) fp) ifs tt)
    (hk : ∀ (s : Shared) (H : Hp) (C : Addr) (cl : List (Str × Addr)) (fp : List Addr), PE (X.blk s H scope (compEnvC scope cl C X.env) fp) kx tk)
    (he : ∀ (s : Shared) (H : Hp) (C : Addr) (cl : List (Str × Addr)) (fp : List Addr), PE (X.blk s H scope (compEnvC scope cl C X.env) fp) vx tv) (hs : ∀ x, foldedSetIterable iter X.env x = pure x := by intro _; rfl) :
    PE X (.DictComp kx vx [⟨tg, iter, ifs, 0⟩] scope pos) (tDcT X.prog X.w wi g tt tk tv (own.map (·.2))) := by
  refine ⟨fun pins s σ H Q I h => ?_⟩
  rw [arm_eval_DictComp]
  have free : ∀ y ∈ scope.names, y.2 = .free → ∃ c, X.env.cells.lookup y.1 = some c := fun y hy e => (ok.free y hy e).elim (fun k => I.ok.has _ (.inl k)) fun k => I.ok.has _ (.inr k)
  refine wpAny_comprehension_free (use := none) rfl hs (closure_ok free) ok.kind (fun y hy e => by rw [ok.uniq y hy, e])
    (thn (hi.run pins s σ H _ I h) fun _ _ hx => thn hx fun _ t2 h2 => ?_)
  obtain ⟨it, fp, tn, J, H2, rfl, I2, T, st2, f2, q⟩ := h2
  refine wpAny_newObj_type (newEnv_comp ?_)
  -- the new dict stands behind all that is there
  obtain ⟨D, eD⟩ : ∃ D, D = t2.heap.objs.size := ⟨_, rfl⟩
  rw [← eD]
  have fresh : H2 D = none := I2.hok.fresh (Nat.le_of_eq eD.symm)
  obtain ⟨W, ⟨m0, w0⟩, turn⟩ := q D fresh
  obtain ⟨t3, e3⟩ : ∃ t3 : Shared, t3 = { t2 with heap := t2.heap.push { cls := .type "dict", data := .dict #[] } } := ⟨_, rfl⟩
  obtain ⟨H3, eH3⟩ : ∃ H3 : Hp, H3 = upd H2 D (dtO X.prog X.w D []) := ⟨_, rfl⟩
  rw [← eH3] at w0
  have hp3 : t3.heap = t2.heap.push { cls := .type "dict", data := .dict #[] } := by rw [e3]
  have I3 : Inv X pins σ H3 t3 := by
    rw [e3, eH3]
    refine I2.laid (t' := t2.toks) (fun b o e => Heap.get?_push_of_some _ e) (Nat.le_of_eq eD.symm) ?_
    rw [eD]
    exact dtO_empty t2.heap I2.big
  have old : ∀ b ∈ fp, b < t2.heap.objs.size := fun b hb => let ⟨_, e, _⟩ := T.obj _ _ st2 b hb; Heap.lt_size e
  have f3 : ∀ b ∈ fp, FpOk X pins H3 b ∧ b < t3.heap.objs.size := fun b hb => by
    refine ⟨⟨?_, (f2 b hb).2⟩, by rw [hp3, Heap.size_push]; exact Nat.lt_succ_of_lt (old b hb)⟩
    rw [eH3, upd_ne (by rw [eD]; exact Nat.ne_of_lt (old b hb))]
    exact (f2 b hb).1
  have away : ∀ b ∈ fp, H3 b = none := fun b hb => (f3 b hb).1.1
  have st3 : tn 0 t3.heap := T.keep _ _ _ st2 fun b _ o e => by rw [hp3]; exact Heap.get?_push_of_some _ e
  have I4 := block_start I3 ok hN f3
  have pg := hg t3 H3 t3.heap.objs.size (cellsFrom (t3.heap.objs.size + 1) scope.names (cloFrom X.env.cells scope.names [])) fp
  have pt := ht t3 H3 t3.heap.objs.size (cellsFrom (t3.heap.objs.size + 1) scope.names (cloFrom X.env.cells scope.names [])) fp
  have pk := hk t3 H3 t3.heap.objs.size (cellsFrom (t3.heap.objs.size + 1) scope.names (cloFrom X.env.cells scope.names [])) fp
  have pv := he t3 H3 t3.heap.objs.size (cellsFrom (t3.heap.objs.size + 1) scope.names (cloFrom X.env.cells scope.names [])) fp
  rw [← e3]
  show codeAny _ _ (.compStart (.DictComp kx vx [⟨tg, iter, ifs, 0⟩] scope pos) 0 (.ref it) (.ref D) (compEnvC scope (cellsFrom (t3.heap.objs.size + 1) scope.names (cloFrom X.env.cells scope.names [])) t3.heap.objs.size X.env)) (compPost (model X.prog X.w) X.A X.xe none _ (.ref D) t3.heap.objs.size) { t3 with heap := pushCells (t3.heap.push { cls := .type "dict", data := .dict #[] }) scope.names }
  generalize hce : compEnvC scope (cellsFrom (t3.heap.objs.size + 1) scope.names (cloFrom X.env.cells scope.names [])) t3.heap.objs.size X.env = ce at I4 pg pt pk pv ⊢
  have cL : ce.locals = t3.heap.objs.size := by subst hce; rfl
  generalize hs4 : ({ t3 with heap := pushCells (t3.heap.push { cls := .type "dict", data := .dict #[] }) scope.names } : Shared) = t4 at I4 ⊢
  have st4 : tn 0 t4.heap := T.keep _ _ _ st3 fun b _ o e => by rw [← hs4]; exact pushCells_keeps _ _ _ _ (Heap.get?_push_of_some _ e)
  have calm : ∀ {σ' : St} {H' : Hp} {s' : Shared}, Inv (X.blk t3 H3 scope ce fp) [] σ' H' s' → (∀ b ∈ fp, H' b = none) → ∀ b ∈ fp, FpOk (X.blk t3 H3 scope ce fp) [] H' b := fun I' hn b hb =>
    ⟨hn b hb, (I'.ok.exf b hb).1, I'.ok.exfs b hb, .inl hb, fun x c e => (I'.ok.exf b hb).2 x c e, fun p hp => nomatch (show p ∈ ([] : List (Addr × Obj)) from hp)⟩
  refine codeAny_compStart_dict ?_ (T.self X.A 0 _ _ _ st4 ?_) <;>
  · refine compLoop_anyD (fun n s' => ∃ i H', Inv (X.blk t3 H3 scope ce fp) [] (wipe σ (own.map (·.2))) H' s' ∧ tn i s'.heap ∧ (∀ b ∈ fp, H' b = none) ∧ W i n H') ?_ m0 ⟨0, H3, I4, st4, away, w0⟩
    rintro n s5 ⟨i, H5, I5, st5, n5, w5⟩
    rcases turn i n H5 w5 with ⟨stop, qq⟩ | ⟨go, Nx, hNx, step⟩
    · refine thnF (T.done (X.blk t3 H3 scope ce fp) rfl rfl rfl hc i [] s5 _ H5 (fun _ _ => False) I5 (calm I5 n5) st5 stop) fun r s6 ⟨hr, I6⟩ => ?_
      subst hr
      have I7 : Inv X pins σ H5 s6 := I3.call' (ch := fp) I6.os I6.base I6.hok I6.bare fun b hb => ⟨(f3 b hb).1.2.2.2.1, (f3 b hb).1.2.1, (f3 b hb).1.2.2.2.2.1, (f3 b hb).1.2.2.2.2.2⟩
      have nC : H5 t3.heap.objs.size = none := by
        have z : H5 ce.locals = none := I6.free
        rw [cL] at z
        exact z
      obtain ⟨m, hn⟩ : ∃ m, s6.heap.Ns ce.locals m := let ⟨m, hn, _⟩ := I6.loc; ⟨m, hn⟩
      rw [cL] at hn
      refine ⟨m, hn, fun h'' sb => ?_⟩
      obtain ⟨f0, f1, f2', f4, f5, f6⟩ := I3.fpOk (Nat.le_refl _) nC
      exact ⟨.ref D, H5, I7.turned (t' := s6.toks) (fun b o hb e => (sb.2 b hb).trans e) f0 f1 f4 f5 f6, rfl, qq⟩
    · refine thnF (T.item (X.blk t3 H3 scope ce fp) rfl rfl rfl hc i [] s5 _ H5 (fun _ _ => False) I5 (calm I5 n5) st5 go) fun r s6 ⟨u, hr, h6⟩ => ?_
      subst hr
      refine thnF h6 fun _ s7 ⟨x, H7, I7, r7, y7, st7, n7⟩ => ?_
      refine thnF (pg.run _ s7 _ H7 x u _ (I7.pinned (calm I7 n7) (T.obj _ _ st7)) r7 (step x H7 y7)) fun _ s8 ⟨σ8, H8, I8, hw8, q8⟩ => ?_
      refine thnF (pt.run _ s8 σ8 H8 _ I8 q8) fun b s9 ⟨H9, I9, q9⟩ => ?_
      have fin : ∀ {s' : Shared} {H' : Hp}, Inv (X.blk t3 H3 scope ce fp) ([] ++ pinsAt fp s7.heap) σ8 H' s' → Nx H' → ∃ m, m < n ∧ ∃ i H', Inv (X.blk t3 H3 scope ce fp) [] (wipe σ (own.map (·.2))) H' s' ∧ tn i s'.heap ∧ (∀ b ∈ fp, H' b = none) ∧ W i m H' := fun {s' H'} I' nx => by
        obtain ⟨m', hm, w'⟩ := hNx H' nx
        have held : ∀ b ∈ fp, ∀ o, s7.heap.get? b = some o → s'.heap.get? b = some o ∧ H' b = none := fun b hb o e =>
          let z := I'.pin (b, o) (List.mem_append_right _ (List.mem_append_right _ (mem_pinsAt hb e)))
          ⟨z.1, z.2.1⟩
        refine ⟨m', hm, i + 1, H', (I'.unpinned (pins := [])).weak (by rw [← hw8, wipe_length]) (fun j v e => by rw [← hw8] at e; exact (wipe_some e).1), T.keep _ _ _ st7 fun b hb o e => (held b hb o e).1, fun b hb => ?_, w'⟩
        obtain ⟨o, e, _⟩ := T.obj _ _ st7 b hb
        exact (held b hb o e).2
      cases b with
      | false => exact fin I9 (by simpa using q9)
      | true =>
        simp only [if_true] at q9 ⊢
        refine thnF (pk.run _ s9 σ8 H9 _ I9 q9) fun z s10 ⟨yk, H10, I10, r10, q10⟩ => ?_
        refine thnF (pv.run _ s10 σ8 H10 _ I10 q10) fun z2 s11 ⟨yv, H11, I11, r11, kvs, k, b, ek, kb, ke, new, hD11, hz11, nx⟩ => ?_
        subst ek
        exact dtO_set (X := X.blk t3 H3 scope ce fp) hu I11 hD11 hz11 ke kb new r10 r11 fun s12 I12 => fin I12 nx
/-- such a comprehension over a walk -/
theorem dcT_it {P : Program} {w : World} {J : It} {n : Nat} {G : Hp → Prop} {Y : Nat → Hp → V → Hp → Prop} (wk : Walk J n G Y) {g : TG} {tt : TT} {tk tv : TE} {vs : List Nat} {σ : L2.St} {H1 : Hp} {D : Addr} {Qd : Hp → Prop} (Pv : Nat → Hp → Prop) (h0 : Pv 0 (upd H1 D (dtO P w D []))) (hG : ∀ i H, i ≤ n → Pv i H → G H)
    (hs : ∀ i x H H', i < n → Pv i H → Y i H x H' → g x (wipe σ vs) H' fun σ2 H2 => wipe σ2 vs = wipe σ vs ∧ tt σ2 H2 fun b H3 =>
      if b = true then tk σ2 H3 fun y H4 => tv σ2 H4 fun z H5 => ∃ kvs k b, y = .ref b ∧ TupAt H5 b (k.map kV) ∧ (∀ p ∈ kvs, TupAt H5 p.2.1 (p.1.map kV)) ∧ k ∉ kvs.map (·.1) ∧ H5 D = some (dtO P w D kvs) ∧ kvs.length < sizeLine ∧ Pv (i + 1) (upd H5 D (dtO P w D (kvs ++ [(k, b, z)]))) else Pv (i + 1) H3) (hd : ∀ H, Pv n H → Qd H) :
    ∃ W : Nat → Nat → Hp → Prop, (∃ m, W 0 m (upd H1 D (dtO P w D []))) ∧ ∀ i m H, W i m H →
      (J.stop i H ∧ Qd H) ∨ (J.go i H ∧ ∃ Nx : Hp → Prop, (∀ H', Nx H' → ∃ m', m' < m ∧ W (i + 1) m' H') ∧ ∀ x H', J.yld i H x H' → g x (wipe σ vs) H' fun σ2 H2 => wipe σ2 vs = wipe σ vs ∧ tt σ2 H2 fun b H3 =>
        if b = true then tk σ2 H3 fun y H4 => tv σ2 H4 fun z H5 => ∃ kvs k b, y = .ref b ∧ TupAt H5 b (k.map kV) ∧ (∀ p ∈ kvs, TupAt H5 p.2.1 (p.1.map kV)) ∧ k ∉ kvs.map (·.1) ∧ H5 D = some (dtO P w D kvs) ∧ kvs.length < sizeLine ∧ Nx (upd H5 D (dtO P w D (kvs ++ [(k, b, z)]))) else Nx H3) := by
  refine ⟨fun i m H => m = n - i ∧ i ≤ n ∧ Pv i H, ⟨n, (Nat.sub_zero n).symm, Nat.zero_le _, h0⟩, fun i m H p => ?_⟩
  obtain ⟨rfl, hi, p⟩ := p
  have q := hG i H hi p
  rcases Nat.lt_or_eq_of_le hi with hlt | rfl
  · exact .inr ⟨wk.goes i H hlt q, Pv (i + 1), fun H' p' => ⟨n - (i + 1), by omega, rfl, hlt, p'⟩, fun x H' y => hs i x H H' hlt p (wk.yields i H x H' hlt q y)⟩
  · exact .inl ⟨wk.stops H q, hd H p⟩
end
/-- d.get(y) of such a dict -/
def tDGetT (P : Program) (w : World) (td ty : TE) : TE := fun σ H Q => td σ H fun x H1 => ∃ a kvs, x = .ref a ∧ H1 a = some (dtO P w a kvs) ∧ ty σ H1 fun y H2 => ∃ kvs k b, y = .ref b ∧ TupAt H2 b (k.map kV) ∧ H2 a = some (dtO P w a kvs) ∧ (∀ p ∈ kvs, TupAt H2 p.2.1 (p.1.map kV)) ∧ Q ((kvAt kvs k).getD .non) H2
theorem pe_dgetT {X : Cx} {o e : Expr} {apos cpos : Pos} {td ty : TE} (hu : X.A.units + 1 < cLine) (ho : PE X o td) (he : PE X e ty) (m : M1 X o "get" apos e cpos) : PE X (.Call (.Attribute o "get" apos) [e] [] cpos) (tDGetT X.prog X.w td ty) := by
  refine ⟨fun pins s σ H Q I h => ?_⟩
  refine wpAny_Call_method m.base m.few m.line PySem.F.plainAttrs_dict PySem.F.slot_dict_get PySem.F.type_dict_get (thn (ho.run pins s σ H _ I h) fun u s1 ⟨x, H1, I1, rx, a, kvs0, ex, ea, q1⟩ => ?_)
  subst ex
  obtain rfl : u = Value.ref a := rx
  obtain ⟨_, _, _, _, ob, _, _, h1, h2, _⟩ := dtO_rd I1.hok ea
  refine ⟨⟨ob, h1, h2.1⟩, fun b q => ?_, ?_⟩
  · cases q
    exact ⟨ob, h1, h2.2.1⟩
  rw [m.trees]
  refine Calls.callWith_builtin rfl (Calls.evalArgs_plain (Calls.spliced_cons (thn (he.run pins s1 σ H1 _ I1 q1) fun iv s2 ⟨y, H2, I2, ry, kvs, k, b, ey, kb, ea2, ke, q2⟩ => Calls.spliced_nil ?_)))
  subst ey
  cases (show iv = Value.ref b from ry)
  obtain ⟨z, hd, xs, rel, dd⟩ := dtO_dict I2.hok ea2 ke
  refine call_meetsIn PySem.F.slot_dict_get dd.typeIs PySem.F.entry_dict_get (PySem.F.args_dict_get_2 _ _) (meetsH_dict_get (tupleKind (mixKind X.prog X.w)) a b hd) ⟨tupleKind_room_in1 hu, k, xs, tup_key I2.hok kb, dd, _, H2, I2.tok _, ?_, q2⟩
  exact (kvs_rel rel).getD rfl
end L2
set_option Elab.async false
set_option linter.all false
set_option maxRecDepth 100000
set_option maxHeartbeats 4000000
namespace Toy
open PySem PySem.Spec PyProof.Rows L2
def spInner (C D : Addr) : Sp := fun vs H Q _ => ∃ (x a t : Addr) (rows : Rows2) (ks : List KRow) (cs : List Str) (lg : Rows2) (gs ws : List V) (js : List JRow) (j : JRow), vs = [.ref x, .ref t] ∧ DrG C D H x a rows ks cs lg gs ws js ∧ TupAt H t (joinV j) ∧ Q (.bl (decide (j.2.1 < cs.length))) H
def spHasInner (C D : Addr) : Sp := fun vs H Q _ => ∃ (x a t : Addr) (rows : Rows2) (ks : List KRow) (cs : List Str) (lg : Rows2) (gs ws : List V) (js : List JRow) (j : JRow), vs = [.ref x, .ref t] ∧ DrG C D H x a rows ks cs lg gs ws js ∧ TupAt H t (joinV j) ∧ j ∈ js ∧ ∀ H', Same H H' → Q (.bl (decide (j.2.1 < cs.length))) H'
def spNewNames (C D : Addr) : Sp := fun vs H Q _ => ∃ (x a t : Addr) (rows : Rows2) (ks : List KRow) (cs : List Str) (lg : Rows2) (gs ws : List V) (js : List JRow) (n1 n2 : Str), vs = [.ref x, .ref t] ∧ DrG C D H x a rows ks cs lg gs ws js ∧ (lg.map (·.1)).Nodup ∧ TupAt H t [.str n1, .str n2] ∧ nameS n1 = true ∧ nameS n2 = true ∧ n1 ≠ n2 ∧ n1 ∉ lg.map (·.1) ∧ n2 ∉ lg.map (·.1) ∧ ∀ H', Same H H' → Q (.bl true) H'
def spAmong (C D : Addr) : Sp := fun vs H Q _ => ∃ (x a g : Addr) (rows : Rows2) (ks : List KRow) (cs : List Str) (lg legs : Rows2) (gs ws : List V) (js : List JRow), vs = [.ref x, .ref g] ∧ DrG C D H x a rows ks cs lg gs ws js ∧ Dt H (.ref g) (.list (legs.map rowT)) ∧ legs.length ≤ 6 ∧ legs.Nodup ∧
  ∀ (r : Addr) (H' : Hp), Same H H' → H' r = some (.lst (intsV (List.range cs.length) ++ lg.map fun z => if z ∈ legs then V.int ((cs.length + legs.idxOf z : Nat)) else .non)) → Q (.ref r) H'
def keyR (z : Str × Str) : List Key := [.inr z.1, .inr z.2]
theorem keyR_inj {a b : Str × Str} (h : keyR a = keyR b) : a = b := by
  unfold keyR at h
  injection h with h1 h2
  injection h2 with h2 _
  exact Prod.ext (Sum.inr.inj h1) (Sum.inr.inj h2)
/-- keys and numbers of legs, from m on -/
def entR : Nat → Rows2 → List (List Key × V)
  | _, [] => []
  | m, z :: zs => (keyR z, V.int (m : Nat)) :: entR (m + 1) zs
theorem entR_snoc (z : Str × Str) : ∀ (zs : Rows2) (m : Nat), entR m (zs ++ [z]) = entR m zs ++ [(keyR z, V.int ((m + zs.length : Nat) : Int))]
  | [], m => rfl
  | y :: zs, m => by
    show (keyR y, V.int (m : Nat)) :: entR (m + 1) (zs ++ [z]) = (keyR y, V.int (m : Nat)) :: (entR (m + 1) zs ++ _)
    rw [entR_snoc z zs (m + 1), show m + 1 + zs.length = m + (y :: zs).length by rw [List.length_cons]; omega]
theorem entR_keys : ∀ (zs : Rows2) (m : Nat), (entR m zs).map Prod.fst = zs.map keyR
  | [], m => rfl
  | y :: zs, m => by
    show keyR y :: (entR (m + 1) zs).map Prod.fst = _
    rw [entR_keys zs (m + 1)]
    rfl
theorem entR_find (z : Str × Str) : ∀ (zs : Rows2) (m : Nat), ((entR m zs).find? fun p => decide (p.1 = keyR z)).map (·.2) = if z ∈ zs then some (V.int ((m + zs.idxOf z : Nat) : Int)) else none
  | [], m => rfl
  | y :: zs, m => by
    show (((keyR y, V.int (m : Nat)) :: entR (m + 1) zs).find? fun p => decide (p.1 = keyR z)).map (·.2) = _
    by_cases c : y = z
    · subst c
      rw [List.find?_cons_of_pos (by simp), if_pos List.mem_cons_self, List.idxOf_cons_self]
      rfl
    · rw [List.find?_cons_of_neg (by simpa using fun h => c (keyR_inj h)), entR_find z zs (m + 1)]
      by_cases d : z ∈ zs
      · rw [if_pos d, if_pos (List.mem_cons_of_mem _ d), List.idxOf_cons, show (y == z) = false from beq_eq_false_iff_ne.mpr c, cond_false, show m + 1 + zs.idxOf z = m + (zs.idxOf z + 1) by omega]
      · rw [if_neg d, if_neg (fun h => (List.mem_cons.mp h).elim (fun e => c e.symm) d)]
theorem kvAt_find (kvs : KVs) (k : List Key) : kvAt kvs k = ((kvs.map fun p => (p.1, p.2.2)).find? fun p => decide (p.1 = k)).map (·.2) := by
  unfold kvAt
  induction kvs with
  | nil => rfl
  | cons p r ih =>
    rw [List.map_cons]
    by_cases c : p.1 = k
    · rw [List.find?_cons_of_pos (by simpa using c), List.find?_cons_of_pos (by simpa using c)]
      rfl
    · rw [List.find?_cons_of_neg (by simpa using c), List.find?_cons_of_neg (by simpa using c)]
      exact ih
theorem hu_of0 {k : Nat} {A : Around} (hr : Room k A) : A.units < cLine := by
  have := hr.un
  omega
section
variable {P : Program} {w : World} {K : PySem.W.Frag} {mg : Str → Option Value} {base : Heap}
abbrev inN : List Str := ["drawing", "join"]
theorem scInner : FnScope inN ["drawing", "join"] (defScope sInner) := ⟨rfl, rfl, rfl, by decide +kernel, rfl, by decide +kernel, by decide +kernel⟩
theorem ok_inner {f C D : Addr} {fd : FuncData} (F : Fun K "_is_inner" "_is_inner" sInner f fd) (M : Mods mg) (TD : DrC K mg D) :
    FnOk P w K mg base CX0 1 f fd ["drawing", "join"] (spInner C D) := by
  refine F.ok scInner (fun vs H Q E h => ?_) (fun cdv A outer s H vs Q E hr h => ?_)
  · obtain ⟨x, a, t, rows, ks, cs, lg, gs, ws, js, j, rfl, _⟩ := h
    rfl
  · obtain ⟨x, a, t, rows, ks, cs, lg, gs, ws, js, j, rfl, dg, tq, k⟩ := h
    refine ⟨_, (pss_one (ps_ret (pe_cmpR op_lt (pe_ix ix_tup (pv 1) pe_int (fun _ _ => rfl)) (pe_callB call_len_seq (by rfl) M.len PySem.boot_len (pa_cons (pe_fld (pv 0) rfl) pa_nil)) (nomark _)))), ?_⟩
    obtain ⟨dx, l1, l2, l3, hx, DI⟩ := dg
    refine ⟨_, rfl, t, _, 2, _, rfl, rfl, tq.sq, ix2, _, rfl, x, D, dx, _, _, rfl, hx, TD.cl, TD.nC, df_corners _ _ _ _, l1, _, rfl, .inl (SqL.of DI.hc), _, _, rfl, rfl, ?_⟩
    rw [List.length_map]
    dsimp only
    have e : decide ((j.2.1 : Int) < (cs.length : Int)) = decide (j.2.1 < cs.length) := decide_eq_decide.mpr (by omega)
    rw [e]
    exact k
abbrev hiN : List Str := ["drawing", "join"]
theorem scHasInner : FnScope hiN ["drawing", "join"] (defScope sHasInner) := ⟨rfl, rfl, rfl, by decide +kernel, rfl, by decide +kernel, by decide +kernel⟩
theorem ok_hasInner {f C D fJ fI : Addr} {fd fdJ fdI : FuncData} (F : Fun K "_has_inner" "_has_inner" sHasInner f fd) (M : Mods mg) (TD : DrC K mg D)
    (GJ : FnOk P w K mg base CX0 2 fJ fdJ ["stock", "row"] (spIsJoin C)) (kJ : PySem.W.keepIn K (.ref fJ) = true) (bJ : Binds K fdJ ["stock", "row"] []) (gJ : mg "is_join" = some (.ref fJ))
    (GI : FnOk P w K mg base CX0 1 fI fdI ["drawing", "join"] (spInner C D)) (kI : PySem.W.keepIn K (.ref fI) = true) (bI : Binds K fdI ["drawing", "join"] []) (gI : mg "_is_inner" = some (.ref fI)) :
    FnOk P w K mg base CX0 3 f fd ["drawing", "join"] (spHasInner C D) := by
  refine F.ok scHasInner (fun vs H Q E h => ?_) (fun cdv A outer s H vs Q E hr h => ?_)
  · obtain ⟨x, a, t, rows, ks, cs, lg, gs, ws, js, j, rfl, _⟩ := h
    rfl
  · obtain ⟨x, a, t, rows, ks, cs, lg, gs, ws, js, j, rfl, dg, tq, hj, k⟩ := h
    have hr1 : Room 1 _ := hr.mono (by decide)
    have hr2 : Room 2 _ := hr.mono (by decide)
    have hu65 : (A.deeper (envOfC "_has_inner" (defScope sHasInner) s.heap.objs.size f cdv)).units + 65 < cLine := by
      have := hr.un
      omega
    refine ⟨_, (pss_one (ps_ret (pe_and (pe_call GJ hr2 (by rfl) gJ kJ bJ .nil pass0 (pa_cons (pe_fld (pv 0) rfl) (pa_cons (pv 1) pa_nil))) (pe_and (pe_cmpR (op_inD hu65) (pv 1) (pe_fld (pv 0) rfl) (by rfl)) (pe_one (pe_call GI hr1 (by rfl) gI kI bI .nil pass0 (pa_cons (pv 0) (pa_cons (pv 1) pa_nil)))))))), ?_⟩
    obtain ⟨dx, l1, l2, l3, hx, DI⟩ := id dg
    refine ⟨_, rfl, x, D, dx, _, _, rfl, hx, TD.cl, TD.nS, df_stock _ _ _ _, _, rfl, a, t, rows, ks, j, rfl, DI.sg.g, tq, DI.gj j hj, fun H1 s1 => ?_⟩
    refine ⟨_, rfl, ?_⟩
    rw [if_pos rfl]
    have DI1 := DI.same s1
    have tq1 := tq.same s1
    have dl : Dt H1 (.ref l3) (.list (js.map joinT)) := .lst DI1.hl (by have := DI1.lw; omega) (DI1.ja.dt DI1.gj)
    have dj := dt_join (DI1.gj j hj) tq1
    refine ⟨_, rfl, _, rfl, x, D, dx, _, _, rfl, s1 _ _ hx, TD.cl, TD.nJ, df_joins _ _ _ _, joinT j, js.map joinT, dj.dp (low_joinT j).nd, dl.dp (low_joins js).nd, shape_of dj (low_joinT j), shape_of dl (low_joins js), ?_⟩
    have any1 : (js.map joinT).any (fun z => PyData.eqv z (joinT j)) = true := List.any_eq_true.mpr ⟨_, List.mem_map_of_mem (f := joinT) hj, PySem.SeqAt.eqv_refl _ (dj.can (low_joinT j).nd)⟩
    rw [any1]
    refine ⟨_, rfl, ?_⟩
    rw [if_pos rfl]
    exact ⟨_, rfl, _, rfl, x, a, t, rows, ks, cs, lg, gs, ws, js, j, rfl, dg.same s1, tq1, k H1 s1⟩
abbrev nnN : List Str := ["drawing", "names", "taken"]
theorem scNewNames : FnScope nnN ["drawing", "names"] (defScope sNewNames) := ⟨rfl, rfl, rfl, by decide +kernel, rfl, by decide +kernel, by decide +kernel⟩
theorem ok_newNames {f C D fP fN : Addr} {fd fdP fdN : FuncData} (F : Fun K "_are_new_names" "_are_new_names" sNewNames f fd) (M : Mods mg) (TD : DrC K mg D)
    (GP : FnOk P w K mg base CX0 1 fP fdP ["thing"] spPair) (kP : PySem.W.keepIn K (.ref fP) = true) (bP : Binds K fdP ["thing"] []) (gP : mg "is_pair" = some (.ref fP))
    (GN : FnOk P w K mg base CX0 1 fN fdN ["thing"] spName) (kN : PySem.W.keepIn K (.ref fN) = true) (bN : Binds K fdN ["thing"] []) (gN : mg "is_name" = some (.ref fN)) :
    FnOk P w K mg base CX0 2 f fd ["drawing", "names"] (spNewNames C D) := by
  refine F.ok scNewNames (fun vs H Q E h => ?_) (fun cdv A outer s H vs Q E hr h => ?_)
  · obtain ⟨x, a, t, rows, ks, cs, lg, gs, ws, js, n1, n2, rfl, _⟩ := h
    rfl
  · obtain ⟨x, a, t, rows, ks, cs, lg, gs, ws, js, n1, n2, rfl, dg, nd, tq, m1, m2, nn, u1, u2, k⟩ := h
    refine ⟨_, (pss_cons (ps_if (PW.pt (pw_or (pt_not (pt_val (pe_call GP hr (by rfl) gP kP bP .nil pass0 (pa_cons (pv 1) pa_nil)))) (pw_or (pt_not (pt_val (pe_call GN hr (by rfl) gN kN bN .nil pass0 (pa_cons (pe_ix ix_tup (pv 1) pe_int (fun _ _ => rfl)) pa_nil)))) (pw_or1 (pt_not (pt_val (pe_call GN hr (by rfl) gN kN bN .nil pass0 (pa_cons (pe_ix ix_tup (pv 1) pe_int (fun _ _ => rfl)) pa_nil)))))))) (pss_one (ps_ret pe_bl)) pss_nil)
      (pss_cons (ps_set (i := 2) scNewNames.nd rfl (Or.inl rfl) (pe_callTy (call_dictP rfl) (by rfl) M.dict_ (by decide +kernel) (pa_cons (pe_fld (pv 0) rfl) pa_nil)))
      (pss_one (ps_ret (pe_and (pe_cmpR op_ne (pe_ix ix_tup (pv 1) pe_int (fun _ _ => rfl)) (pe_ix ix_tup (pv 1) pe_int (fun _ _ => rfl)) (nomark _)) (pe_and (pe_cmp (pc_dnotin (hu_of hr) (pe_ix ix_tup (pv 1) pe_int (fun _ _ => rfl)) (pv 2)) rfl) (pe_one (pe_cmp (pc_dnotin (hu_of hr) (pe_ix ix_tup (pv 1) pe_int (fun _ _ => rfl)) (pv 2)) rfl)))))))), ?_⟩
    obtain ⟨dx, l1, l2, l3, hx, DI⟩ := id dg
    have dN : Dt H (.ref t) (.tuple [.str n1, .str n2]) := .tup tq (by show 2 ≤ 1000; decide) (.cons (.str _ (okS_name m1)) (.cons (.str _ (okS_name m2)) .nil))
    refine ⟨_, rfl, .ref t, _, rfl, dN, _, rfl, ?_⟩
    dsimp only
    rw [if_neg (by show ¬ ((false : Bool) = true); decide)]
    refine ⟨_, rfl, t, _, 0, _, rfl, rfl, tq.sq, ix0, .str n1, .str n1, rfl, .str _ (okS_name m1), fun H1 s1 => ⟨_, rfl, ?_⟩⟩
    dsimp only
    rw [show nameD (.str n1) = true from m1, if_neg (by decide)]
    refine ⟨_, rfl, t, _, 1, _, rfl, rfl, (tq.same s1).sq, ix1, .str n2, .str n2, rfl, .str _ (okS_name m2), fun H2 s2 => ⟨_, rfl, ?_⟩⟩
    dsimp only
    rw [show nameD (.str n2) = true from m2, if_neg (by decide)]
    have s02 := s1.trans s2
    have DI2 := DI.same s02
    obtain ⟨gv, eg, _, rg⟩ := dt_list DI2.dg
    obtain ⟨ps, exs, pr⟩ := rows_pairs (K := K) rg
    subst exs
    refine ⟨_, rfl, x, D, dx, _, _, rfl, s02 _ _ hx, TD.cl, TD.nL, df_legs _ _ _ _, l2, ps, _, rfl, SqL.of eg, pr, fun dp hdp => ?_⟩
    rw [dict_is nd]
    have t1 := same_new (o := .dK (lg.map kvOf)) hdp
    have hdp1 : upd H2 dp (.dK (lg.map kvOf)) dp = some (.dK (lg.map kvOf)) := upd_same
    generalize upd H2 dp (.dK (lg.map kvOf)) = H3 at t1 hdp1 ⊢
    have s03 := s02.trans t1
    have tq3 := tq.same s03
    refine ⟨_, rfl, t, _, 0, _, rfl, rfl, tq3.sq, ix0, _, rfl, t, _, 1, _, rfl, rfl, tq3.sq, ix1, rfl, ?_⟩
    have ne : decide (V.str n1 = V.str n2) = false := decide_eq_false fun z => nn (by injection z)
    rw [ne]
    refine ⟨_, rfl, ?_⟩
    rw [if_pos (by decide)]
    refine ⟨_, rfl, t, _, 0, _, rfl, rfl, tq3.sq, ix0, _, rfl, dp, _, rfl, dget_rows (.inl hdp1) n1, ?_⟩
    rw [val_rows, decide_eq_false u1]
    refine ⟨_, rfl, ?_⟩
    rw [if_pos (by decide)]
    refine ⟨_, rfl, t, _, 1, _, rfl, rfl, tq3.sq, ix1, _, rfl, dp, _, rfl, dget_rows (.inl hdp1) n2, ?_⟩
    rw [val_rows, decide_eq_false u2]
    exact k _ s03
abbrev amN : List Str := ["drawing", "legs", "many", "numbers", "at", "leg"]
theorem scAmong : FnScope amN ["drawing", "legs"] (defScope sAmong) := ⟨rfl, rfl, rfl, by decide +kernel, rfl, by decide +kernel, by decide +kernel⟩
theorem ok_among {f C D : Addr} {fd : FuncData} (F : Fun K "_places_among" "_places_among" sAmong f fd) (M : Mods mg) (TD : DrC K mg D) (mR : mg "range" = none) (mEn : mg "enumerate" = none) :
    FnOk P w K mg base CX0 1 f fd ["drawing", "legs"] (spAmong C D) := by
  refine F.ok scAmong (fun vs H Q E h => ?_) (fun cdv A outer s H vs Q E hr h => ?_)
  · obtain ⟨x, a, g, rows, ks, cs, lg, legs, gs, ws, js, rfl, _⟩ := h
    rfl
  · obtain ⟨x, a, g, rows, ks, cs, lg, legs, gs, ws, js, rfl, dg, hg, l6, nd, k⟩ := h
    refine ⟨_, (pss_cons (ps_set (i := 2) scAmong.nd rfl (Or.inr rfl) (pe_callB call_len_seq (by rfl) M.len PySem.boot_len (pa_cons (pe_fld (pv 0) rfl) pa_nil)))
      (pss_cons (ps_set (i := 3) scAmong.nd rfl (Or.inr rfl) (pe_dcT (own := [("at", 4), ("leg", 5)]) (g := gTup K 2 (gCons (gName 4) (gCons (gName 5) gNil))) (tt := tYes) (tk := tVar 5) (tv := tOp (rI0 fun i j => .int (i + j)) (tVar 2) (tVar 4)) rfl (hu_of0 hr) scAmong.nd (pi_enum (by rfl) mEn (pa_cons (pv 1) pa_nil)) (blkOk_by (N := amN) (sc := defScope sAmong) (by decide +kernel)) (fun _ _ _ _ _ => (pg_tup rfl (pgs_cons (pg_name (i := 4) scAmong.nd rfl (Or.inl rfl)) (pgs_cons (pg_name (i := 5) scAmong.nd rfl (Or.inl rfl)) pgs_nil)))) (fun _ _ _ _ _ => pts_nil) (fun _ _ _ _ _ => pv 5) (fun _ _ _ _ _ => (by exact (pe_op op_add (pv 2) (pv 4))))))
      (pss_one (ps_ret (pe_op op_cat (pe_listRg rfl (by rfl) M.lst_ (prg_1 (by rfl) mR (pv 2))) (pe_lc (own := [("leg", 5)]) (g := gName 5) (tt := tYes) (te := tDGetT P w (tVar 3) (tVar 5)) rfl scAmong.nd (pi_list (pe_fld (pv 0) rfl)) (blkOk_by (N := amN) (sc := defScope sAmong) (by decide +kernel)) (fun _ _ _ _ _ => pg_name (i := 5) scAmong.nd rfl (Or.inl rfl)) (fun _ _ _ _ _ => pts_nil) (fun _ _ _ _ _ => (by exact (pe_dgetT (hu_of hr) (pv 3) (pv 5) ⟨rfl, rfl, rfl, rfl⟩))))))))), ?_⟩
    obtain ⟨dx, l1, l2, l3, hx, DI⟩ := id dg
    obtain ⟨gv, eg, lgv, rg⟩ := dt_list hg
    have cl : (cs.map V.str).length = cs.length := List.length_map _
    refine ⟨_, rfl, x, D, dx, _, _, rfl, hx, TD.cl, TD.nC, df_corners _ _ _ _, l1, _, rfl, .inl (SqL.of DI.hc), ?_⟩
    rw [cl]
    refine ⟨_, rfl, g, gv, rfl, SqL.of eg, fun D2 nD2 => ?_⟩
    have ngv : gv.length = legs.length := by rw [rg.len, List.length_map]
    refine dcT_it walk_enum (fun i H' => Same H (del H' D2) ∧ ∃ kvs, H' D2 = some (dtO P w D2 kvs) ∧ (∀ p ∈ kvs, TupAt (del H' D2) p.2.1 (p.1.map kV)) ∧ kvs.map (fun p => (p.1, p.2.2)) = entR cs.length (legs.take i)) ⟨same_del' nD2, [], upd_same, fun _ h => (nomatch h), rfl⟩ (fun i H' _ h => SqL.of (del_sub _ _ (h.1 _ _ eg))) ?_ ?_
    · rintro i xv H3 H4 hi ⟨s3, kvs, hD3, ke, ek⟩ ⟨Tq, u, v, rfl, nT, rfl, hu, hv⟩
      cases hu
      obtain ⟨z, hz⟩ : ∃ z, legs[i]? = some z := ⟨legs[i], List.getElem?_eq_getElem (by omega)⟩
      obtain ⟨q, rfl, tq⟩ := row_at rg hv hz
      have ntD : Tq ≠ D2 := (ne_of_none hD3 nT).symm
      have t4 := same_new (o := .tup [.int (i : Nat), .ref q]) nT
      have hD4 := t4 _ _ hD3
      have s4 := s3.trans (same_del (l := D2) t4)
      refine ⟨Tq, _, rfl, SqT.of upd_same, rfl, _, _, rfl, _, _, rfl, rfl, ?_⟩
      have ke4 : ∀ p ∈ kvs, TupAt (del (upd H3 Tq (.tup [.int (i : Nat), .ref q])) D2) p.2.1 (p.1.map kV) := fun p hp => (ke p hp).same (same_del (l := D2) t4)
      generalize upd H3 Tq (.tup [.int (i : Nat), .ref q]) = H4 at t4 hD4 s4 ke4 ⊢
      refine ⟨rfl, ?_⟩
      delta tYes
      dsimp only
      rw [if_pos rfl]
      have tq4 := tq.same s4
      have ek2 : kvs.map (·.1) = (legs.take i).map keyR := by
        have := congrArg (List.map Prod.fst) ek
        rw [entR_keys, List.map_map] at this
        exact this
      have lk : kvs.length = (legs.take i).length := by
        have := congrArg List.length ek2
        rw [List.length_map, List.length_map] at this
        exact this
      refine ⟨_, rfl, _, rfl, _, rfl, _, _, rfl, rfl, ?_⟩
      refine ⟨kvs, keyR z, q, rfl, tq4.same del_sub, fun p hp => (ke4 p hp).same del_sub, ?_, hD4, ?_, s4.trans del_upd_same, kvs ++ [(keyR z, q, _)], upd_same, fun p hp => ?_, ?_⟩
      · rw [ek2]
        intro hm
        obtain ⟨z2, h2, e2⟩ := List.mem_map.mp hm
        rw [keyR_inj e2] at h2
        obtain ⟨n, hn, en⟩ := List.mem_take_iff_getElem.mp h2
        have hiL := (List.getElem?_eq_some_iff.mp hz).1
        have ez := (List.getElem?_eq_some_iff.mp hz).2
        have x1 := nd.idxOf_getElem n (by omega)
        have x2 := nd.idxOf_getElem i hiL
        rw [en] at x1
        rw [ez] at x2
        omega
      · rw [lk, List.length_take, sizeLine_eq]
        omega
      · rcases List.mem_append.mp hp with h | h
        · exact (ke4 p h).same del_upd_same
        · rw [List.mem_singleton.mp h]
          exact tq4.same del_upd_same
      · rw [List.map_append, ek, take_snoc hz, entR_snoc, List.length_take, Nat.min_eq_left (by have := (List.getElem?_eq_some_iff.mp hz).1; omega)]
        rfl
    · rintro H3 ⟨s3, kvs, hD3, ke, ek⟩
      rw [ngv, List.take_of_length_le (Nat.le_refl _)] at ek
      have h3 := s3.trans (del_sub (H := H3) (p := D2))
      have DI3 := DI.same h3
      obtain ⟨gs3, eg3, lgs3, rg3⟩ := dt_list DI3.dg
      rw [DI3.hg] at eg3
      injection eg3 with eg3
      injection eg3 with eg3
      subst eg3
      have cs6 := DI.l6
      have lg6 := DI.lg6
      have lgl : gs.length = lg.length := by rw [rg3.len, List.length_map]
      refine ⟨_, rfl, _, rfl, RgOk.of_le (by omega) (by omega) (by omega) (by omega), fun P1 nP1 => ?_⟩
      rw [rgV_nat]
      have x1 := same_new (o := .lst (intsV (List.range cs.length))) nP1
      have hP1 : upd H3 P1 (.lst (intsV (List.range cs.length))) P1 = some (.lst (intsV (List.range cs.length))) := upd_same
      have h4 := h3.trans x1
      have hx4 := h4 _ _ hx
      have hg4 := DI3.hg
      have hg4 := x1 _ _ hg4
      have rg4 := rg3.same x1
      have hD4 := x1 _ _ hD3
      have ke4 : ∀ p ∈ kvs, TupAt (upd H3 P1 (.lst (intsV (List.range cs.length)))) p.2.1 (p.1.map kV) := fun p hp => (ke p hp).same (del_sub.trans x1)
      generalize upd H3 P1 (.lst (intsV (List.range cs.length))) = H4 at x1 hP1 h4 hx4 hg4 rg4 hD4 ke4 ⊢
      refine ⟨_, rfl, x, D, dx, _, _, rfl, hx4, TD.cl, TD.nL, df_legs _ _ _ _, l2, rfl, ⟨_, SqL.of hg4⟩, fun P2 nP2 => ?_⟩
      refine lc_mapW (walk_list (K := K) (a := l2) (xs := gs)) (lg.map fun z => if z ∈ legs then V.int ((cs.length + legs.idxOf z : Nat)) else .non) (by rw [List.length_map, lgl]) (by omega) nP2 (fun H2 s2 => SqL.of (s2 _ _ hg4)) (fun i H x H' h => by rw [h.1]; exact Same.refl _) (fun i y H5 H6 R hi s2 hy hR => ?_) (fun H5 s2 hP2 => ?_)
      · obtain ⟨rfl, hy⟩ := hy
        obtain ⟨z, hz, hzd⟩ := dtrowG_at rg4 hy
        have hz' : lg[i]? = some z := hz
        obtain ⟨q, rfl, tq⟩ := row_at rg4 hy hz'
        have tq5 := tq.same s2
        refine ⟨rfl, _, rfl, D2, kvs, rfl, s2 _ _ hD4, _, rfl, kvs, keyR z, q, rfl, tq5, s2 _ _ hD4, fun p hp => (ke4 p hp).same s2, ?_⟩
        refine hR _ _ ?_ (Same.refl _)
        rw [kvAt_find, ek, entR_find, List.getElem?_map, hz']
        show some _ = some _
        congr 1
        by_cases c : z ∈ legs
        · dsimp only
          rw [if_pos c, if_pos c]
          rfl
        · dsimp only
          rw [if_neg c, if_neg c]
          rfl
      · refine ⟨P1, P2, _, _, rfl, rfl, s2 _ _ hP1, hP2, ?_, fun p np => ?_⟩
        · unfold intsV
          rw [List.length_map, List.length_map, List.length_range, sizeLine_eq]
          omega
        · exact k p _ (h4.trans (s2.trans (same_new np))) upd_same
end
end Toy
set_option Elab.async false
set_option linter.all false
set_option maxRecDepth 100000
set_option maxHeartbeats 4000000
namespace Toy
open PySem PySem.Spec PyProof.Rows L2
structure NoPaC (K : PySem.W.Frag) (CP : Addr) (bm : List Value) (newId : String) : Prop where
  kp : PySem.W.keepIn K (.ref CP) = true
  ex : PySem.W.excIn K CP bm newId = true
  sb : PySem.W.subIn K (.ref CP) (.type "BaseException") = some true
  ty : PySem.W.typeIn K (.ref CP) = some (.type "type")
theorem DrG.stp {C D : Addr} {H : Hp} {x a : Addr} {rows : Rows2} {ks : List KRow} {cs : List Str} {lg : Rows2} {gs ws : List V} {js : List JRow} (d : DrG C D H x a rows ks cs lg gs ws js) : StkP C H a rows ks := let ⟨_, _, _, _, _, DI⟩ := d.ob; DI.sg
theorem din_of {C : Addr} {H : Hp} {a c g u : Addr} {rows : Rows2} {ks : List KRow} {cs : List Str} {lg : Rows2} {ws gs : List V} {js : List JRow} (gd : GoodS rows) (gk : GoodK (rows.map (·.1)) ks) (sg : StkP C H a rows ks) (c6 : cs.length ≤ 6) (hcs : ∀ x ∈ cs, x ∈ ks.map (·.1)) (LG : LegsG rows lg)
    (hc : H c = some (.lst (cs.map V.str))) (hg : H g = some (.lst gs)) (dg : Dt H (.ref g) (.list (lg.map rowT))) (hu : H u = some (.lst ws)) (jv : JoinsAt H ws (sortJ js)) (pm : (js.map (·.1) ++ js.map (·.2)).Perm (allE ks cs lg)) (gj : ∀ j ∈ js, GoodJ rows j) : DrawIn C H a c g u rows ks cs lg gs ws (sortJ js) := by
  obtain ⟨g1, g3, gnm, gnd, gmu⟩ := good_rows gd
  have rn : ∀ x ∈ rows.map (·.1), nameS x = true := fun x hx => by
    obtain ⟨r, hr_, e⟩ := List.mem_map.mp hx
    rw [← e]
    exact (gnm r hr_).1
  have k5 : ∀ kr ∈ ks, kr.2.length ≤ 5 := fun kr hk => (gk.en kr hk).2.1
  have ncs : ∀ x ∈ cs, nameS x = true := fun x hx => by
    obtain ⟨kr, hk, e⟩ := List.mem_map.mp (hcs x hx)
    rw [← e]
    exact gk.nm kr hk
  have memE := sortsE_mem (rows := rows) gk hcs LG.so
  have eAS := allE_sorts ks cs lg
  have len36 := sortsE_len (ks := ks) (cs := cs) (lg := lg) k5 c6 LG.l6
  have nam : ∀ e ∈ allE ks cs lg, nameS e.2 = true := fun e he => rn _ (memE _ (by rw [← eAS]; exact List.mem_map_of_mem (f := fun e : End => e.2) he))
  obtain ⟨h1, h2, h3⟩ := joins_make2 pm (all_sorted (lg := lg) gk hcs) gj
  have lw : ws.length ≤ 40 := by
    have z := jv.len
    rw [(sortJ_perm js).length_eq] at z
    have z2 := pm.length_eq
    rw [List.length_append, List.length_map, List.length_map] at z2
    rw [← eAS, List.length_map] at len36
    omega
  exact ⟨sg, k5, hc, c6, hcs, ncs, hg, dg, legs_ok LG rn, LG.l6, nam, hu, lw, jv, h1, h2, h3⟩
end Toy
set_option Elab.async false
set_option linter.all false
set_option maxRecDepth 100000
set_option maxHeartbeats 4000000
namespace Toy
open PySem PySem.Spec PyProof.Rows L2
/-- two legs of a drawing joined with each other -/
structure SewCase (rows : Rows2) (cs : List Str) (lg : Rows2) (js : List JRow) (i1 i2 : Nat) (g1 g2 : Str × Str) (e1 e2 : End) : Prop where
  h1 : lg[i1]? = some g1
  h2 : lg[i2]? = some g2
  ne : i1 ≠ i2
  at_ : SewAt js (cs.length + i1) (cs.length + i2) g1 g2 e1 e2
def spBeyond (C D : Addr) : Sp := fun vs H Q _ => ∃ (x a : Addr) (p : Nat) (rows : Rows2) (ks : List KRow) (cs : List Str) (lg : Rows2) (gs ws : List V) (js : List JRow) (e : End), vs = [.ref x, .int (p : Nat)] ∧ DrG C D H x a rows ks cs lg gs ws js ∧ beyJ p js = some e ∧
  ∀ (t : Addr) (H' : Hp), Same H H' → TupAt H' t [.int (e.1 : Nat), .str e.2] → Q (.ref t) H'
def spJoinLegs (C D CJ : Addr) : Sp := fun vs H Q E => ∃ (x a : Addr) (rows : Rows2) (ks : List KRow) (cs : List Str) (lg : Rows2) (gs ws : List V) (js : List JRow) (i1 i2 : Nat) (g1 g2 : Str × Str) (e1 e2' : End), vs = [.ref x, .str g1.1, .str g2.1] ∧ DrG C D H x a rows ks cs lg gs ws js ∧ GoodS rows ∧ GoodK (rows.map (·.1)) ks ∧ Mut rows ∧ LegsG rows lg ∧ SewCase rows cs lg js i1 i2 g1 g2 e1 e2' ∧
  ((e1.1 = cs.length + i2 ∨ (e1.2, e2'.2) ∉ rows) → ∀ H', Same H H' → E (.ref CJ) none H') ∧
  (e1.1 ≠ cs.length + i2 → (e1.2, e2'.2) ∈ rows → ∀ (z : Addr) (gs' ws' : List V) (H' : Hp), H z = none → DrG C D H' z a rows ks cs (sewL lg g1.1 g2.1) gs' ws' (sortJ (sewJ cs.length lg (sewL lg g1.1 g2.1) (cs.length + i1) (cs.length + i2) e1 e2' js)) → Same H H' → Q (.ref z) H')
theorem inV_str {x : Str} {ns : List Str} : inV (.str x) (ns.map V.str) = true ↔ x ∈ ns := by
  unfold inV
  rw [List.any_eq_true]
  constructor
  · rintro ⟨y, hy, e⟩
    obtain ⟨z, hz, rfl⟩ := List.mem_map.mp hy
    have : z = x := by
      have e2 : decide (z = x) = true := e
      exact of_decide_eq_true e2
    rw [← this]
    exact hz
  · intro h
    exact ⟨_, List.mem_map_of_mem (f := V.str) h, decide_eq_true rfl⟩
theorem flat_strs (ns : List Str) : (ns.map V.str).all flatV = true := by
  rw [List.all_eq_true]
  intro y hy
  obtain ⟨z, _, rfl⟩ := List.mem_map.mp hy
  rfl
theorem inV_int {x a b : Nat} : inV (.int (x : Nat)) [.int (a : Nat), .int (b : Nat)] = decide (x = a ∨ x = b) := by
  show (((a : Int) == (x : Int)) || (((b : Int) == (x : Int)) || false)) = _
  rw [Bool.or_false, Bool.eq_iff_iff]
  simp only [Bool.or_eq_true, beq_iff_eq, decide_eq_true_eq]
  omega
theorem inV_two {x a b : Str} : inV (.str x) [.str a, .str b] = decide (x = a ∨ x = b) := by
  have h : inV (.str x) ([a, b].map V.str) = decide (x = a ∨ x = b) := by
    rw [Bool.eq_iff_iff, inV_str, decide_eq_true_eq]
    simp
  exact h
theorem index_str {K : PySem.W.Frag} {H : Hp} {Q : VK} {q : Addr} {ns : List Str} {x : Str} {i : Nat} (hq : H q = some (.lst (ns.map V.str))) (nd : ns.Nodup) (h : ns[i]? = some x) (k : Q (.int (i : Nat)) H) : rIndex K (.ref q) [.str x] H Q := by
  refine ⟨q, _, .str x, i, .str x, rfl, rfl, SqL.of hq, rfl, flat_strs ns, by rw [List.getElem?_map, h]; rfl, ?_, fun m z hm hz => ?_, k⟩
  · show (x == x) = true
    exact beq_self_eq_true x
  · rw [List.getElem?_map] at hz
    obtain ⟨y, hy, rfl⟩ := Option.map_eq_some_iff.mp hz
    show (y == x) = false
    refine beq_eq_false_iff_ne.mpr fun e => ?_
    subst e
    obtain ⟨l1, e1⟩ := List.getElem?_eq_some_iff.mp hy
    obtain ⟨l2, e2⟩ := List.getElem?_eq_some_iff.mp h
    have z1 := nd.idxOf_getElem m l1
    have z2 := nd.idxOf_getElem i l2
    rw [e1] at z1
    rw [e2] at z2
    omega
theorem any_rows (rows : Rows2) (z : Str × Str) : ((rows.map rowT).any fun y => PyData.eqv y (rowT z)) = decide (z ∈ rows) := by
  induction rows with
  | nil => rfl
  | cons r rows ih =>
    rw [List.map_cons, List.any_cons, ih, eqv_row, ← Bool.decide_or]
    exact decide_eq_decide.mpr ⟨fun h => h.elim (fun e => by rw [e]; exact List.mem_cons_self) (List.mem_cons_of_mem _), fun h => (List.mem_cons.mp h).elim (fun e => .inl e.symm) .inr⟩
theorem sewL_snoc (n1 n2 : Str) (lg : Rows2) (g : Str × Str) : sewL (lg ++ [g]) n1 n2 = if g.1 ≠ n1 ∧ g.1 ≠ n2 then sewL lg n1 n2 ++ [g] else sewL lg n1 n2 := by
  unfold sewL
  rw [List.filter_append]
  by_cases c : g.1 ≠ n1 ∧ g.1 ≠ n2
  · rw [if_pos c, List.filter_cons_of_pos (by simpa using c)]
    rfl
  · rw [if_neg c, List.filter_cons_of_neg (by simpa using c), List.filter_nil, List.append_nil]
theorem sewR_snoc (p1 p2 : Nat) (js : List JRow) (j : JRow) : sewR p1 p2 (js ++ [j]) = if farJ p1 p2 j = true then sewR p1 p2 js ++ [j] else sewR p1 p2 js := by
  unfold sewR
  rw [List.filter_append]
  by_cases c : farJ p1 p2 j = true
  · rw [if_pos c, List.filter_cons_of_pos c]
    rfl
  · rw [if_neg c, List.filter_cons_of_neg c, List.filter_nil, List.append_nil]
theorem LegsG.sew {rows lg : Rows2} (h : LegsG rows lg) (n1 n2 : Str) : LegsG rows (sewL lg n1 n2) :=
  ⟨Nat.le_trans (List.length_filter_le _ _) h.l6, h.nd.sublist ((List.filter_sublist).map _), fun g hg => h.nm g (List.mem_filter.mp hg).1, fun g hg => h.so g (List.mem_filter.mp hg).1, h.pw.filter _⟩
theorem among_get {m p : Nat} {lg legs : Rows2} (hp : p < m + lg.length) (h : ∀ k z, p = m + k → lg[k]? = some z → z ∈ legs) : (intsV (List.range m) ++ lg.map fun z => if z ∈ legs then V.int ((m + legs.idxOf z : Nat) : Int) else .non)[p]? = some (.int (plN (bsP 0 m m legs lg) p : Nat)) := by
  have li : (intsV (List.range m)).length = m := by
    unfold intsV
    rw [List.length_map, List.length_range]
  by_cases c : p < m
  · rw [List.getElem?_append_left (by rw [li]; exact c), bsP_lo c]
    unfold intsV
    rw [List.getElem?_map, List.getElem?_range c, Nat.zero_add]
    rfl
  · obtain ⟨k, rfl⟩ : ∃ k, p = m + k := ⟨p - m, by omega⟩
    obtain ⟨z, hz⟩ : ∃ z, lg[k]? = some z := ⟨lg[k], List.getElem?_eq_getElem (by omega)⟩
    rw [List.getElem?_append_right (by omega), li, Nat.add_sub_cancel_left, List.getElem?_map, hz, bsP_hi hz]
    show some _ = some _
    dsimp only
    rw [if_pos (h k z rfl hz)]
section
variable {P : Program} {w : World} {K : PySem.W.Frag} {mg : Str → Option Value} {base : Heap}
abbrev byN : List Str := ["drawing", "leg_place", "join"]
theorem scBeyond : FnScope byN ["drawing", "leg_place"] (defScope sBeyond) := ⟨rfl, rfl, rfl, by decide +kernel, rfl, by decide +kernel, by decide +kernel⟩
theorem ok_beyond {f C D : Addr} {fd : FuncData} (F : Fun K "_end_beyond" "_end_beyond" sBeyond f fd) (M : Mods mg) (TD : DrC K mg D) :
    FnOk P w K mg base CX0 1 f fd ["drawing", "leg_place"] (spBeyond C D) := by
  refine F.ok scBeyond (fun vs H Q E h => ?_) (fun cdv A outer s H vs Q E hr h => ?_)
  · obtain ⟨x, a, p, rows, ks, cs, lg, gs, ws, js, e, rfl, _⟩ := h
    rfl
  · obtain ⟨x, a, p, rows, ks, cs, lg, gs, ws, js, e, rfl, dg, be, k⟩ := h
    refine ⟨_, (pss_cons (ps_for PassesOwn.never rfl (pi_list (pe_fld (pv 0) rfl)) (pg_name (i := 2) scBeyond.nd rfl (Or.inl rfl)) (pss_cons (ps_if (pt_cmpR op_eq (pe_ix ix_tup (pv 2) pe_int (fun _ _ => rfl)) (pv 1) (nomark _)) (pss_one (ps_ret (pe_slice sl_tup (pv 2) (po_some pe_int) po_none))) pss_nil)
      (pss_one (ps_if (pt_cmpR op_eq (pe_ix ix_tup (pv 2) pe_int (fun _ _ => rfl)) (pv 1) (nomark _)) (pss_one (ps_ret (pe_slice sl_tup (pv 2) po_none (po_some pe_int)))) pss_nil))))
      (pss_one (ps_ret pe_non))), ?_⟩
    obtain ⟨dx, l1, l2, l3, hx, DI⟩ := dg
    have lw := DI.ja.len
    refine ⟨_, rfl, x, D, dx, _, _, rfl, hx, TD.cl, TD.nJ, df_joins _ _ _ _, l3, rfl, ⟨_, SqL.of DI.hl⟩, for_it (walk_list (K := K) (a := l3) (xs := ws)) (fun i σ H' => (∃ y2, σ = [some (.ref x), some (.int (p : Nat)), y2]) ∧ Same H H' ∧ beyJ p (js.drop i) = some e)
      ⟨⟨none, rfl⟩, Same.refl _, be⟩ (fun i σ H' _ h => SqL.of (h.2.1 _ _ DI.hl)) ?_ ?_⟩
    · rintro i xv σ H2 H3 hi ⟨⟨y2, rfl⟩, s2, b2⟩ ⟨rfl, hx'⟩
      obtain ⟨j, tj, hj, rfl, tq⟩ := joins_at DI.ja hx'
      have tq2 := tq.same s2
      have jl := (List.getElem?_eq_some_iff.mp hj).1
      have ej := (List.getElem?_eq_some_iff.mp hj).2
      rw [List.drop_eq_getElem_cons jl, ej] at b2
      unfold beyJ at b2
      have tup : ∀ {t : Addr} {e : End} {H' : Hp}, Same H3 H' → TupAt H' t [.int (e.1 : Nat), .str e.2] → beyJ p js = some e → Q (.ref t) H' := fun {t e' H'} s3 th be' => by
        rw [be] at be'
        cases be'
        exact k t H' (s2.trans s3) th
      refine ⟨_, rfl, tj, _, 0, _, rfl, rfl, tq2.sq, ix0, _, rfl, rfl, _, rfl, ?_⟩
      by_cases c : j.1.1 = p
      · rw [if_pos c] at b2
        cases b2
        rw [show decide (V.int (j.1.1 : Nat) = V.int (p : Nat)) = true from decide_eq_true (by rw [c])]
        rw [if_pos rfl]
        refine ⟨_, rfl, 2, rfl, tj, _, rfl, tq2.sq, by show ¬ (HT.sIx 4 0 (some 2) = 0 ∧ HT.sIx 4 4 none = 4); decide, fun q nq => ?_⟩
        have c2 : cutV (joinV j) (some 2) none = [.int (j.2.1 : Nat), .str j.2.2] := cut_from (joinV j) 2 (by show 2 ≤ 4; decide)
        rw [c2]
        exact tup (same_new nq) (.of upd_same) be
      · rw [if_neg c] at b2
        rw [show decide (V.int (j.1.1 : Nat) = V.int (p : Nat)) = false from decide_eq_false (fun z => c (by injection z with z; omega))]
        rw [if_neg (by decide)]
        refine ⟨_, rfl, tj, _, 2, _, rfl, rfl, tq2.sq, ix2, _, rfl, rfl, _, rfl, ?_⟩
        by_cases c2 : j.2.1 = p
        · rw [if_pos c2] at b2
          cases b2
          rw [show decide (V.int (j.2.1 : Nat) = V.int (p : Nat)) = true from decide_eq_true (by rw [c2])]
          rw [if_pos rfl]
          refine ⟨_, rfl, 2, rfl, tj, _, rfl, tq2.sq, by show ¬ (HT.sIx 4 0 none = 0 ∧ HT.sIx 4 4 (some 2) = 4); decide, fun q nq => ?_⟩
          have c2 : cutV (joinV j) none (some 2) = [.int (j.1.1 : Nat), .str j.1.2] := cut_to (joinV j) 2
          rw [c2]
          exact tup (same_new nq) (.of upd_same) be
        · rw [if_neg c2] at b2
          rw [show decide (V.int (j.2.1 : Nat) = V.int (p : Nat)) = false from decide_eq_false (fun z => c2 (by injection z with z; omega))]
          rw [if_neg (by decide)]
          exact ⟨⟨_, rfl⟩, s2, b2⟩
    · rintro σ H2 ⟨⟨y2, rfl⟩, s2, b2⟩
      rw [lw, List.drop_length] at b2
      cases b2
abbrev jlN : List Str := ["drawing", "one", "other", "names", "leg", "many", "gone", "first", "second", "place", "legs", "left", "join", "joins"]
theorem scJoinLegs : FnScope jlN ["drawing", "one", "other"] (defScope sJoinLegs) := ⟨rfl, rfl, rfl, by decide +kernel, rfl, by decide +kernel, by decide +kernel⟩
theorem ok_joinLegs {f fI fN fB fV fA C D CN fX CJ CL : Addr} {fd fdI fdN fdB fdV fdA : FuncData} {bm : List Value} {B newId initId : String} (F : Fun K "join_legs" "join_legs" sJoinLegs f fd) (M : Mods mg) (T : StkC K mg C CN fX) (TD : DrC K mg D) (makD : Mk K D fI) (NF : ExcBaseFacts B newId initId bm)
    (NXL : NoPaC K CL bm newId) (gxL : mg "NoLeg" = some (.ref CL)) (NXJ : NoPaC K CJ bm newId) (gxJ : mg "NoJoin" = some (.ref CJ))
    (GN : FnOk P w K mg base CX0 1 fN fdN ["thing"] spName) (kN : PySem.W.keepIn K (.ref fN) = true) (bN : Binds K fdN ["thing"] []) (gN : mg "is_name" = some (.ref fN))
    (GB : FnOk P w K mg base CX0 1 fB fdB ["drawing", "leg_place"] (spBeyond C D)) (kB : PySem.W.keepIn K (.ref fB) = true) (bB : Binds K fdB ["drawing", "leg_place"] []) (gB : mg "_end_beyond" = some (.ref fB))
    (GV : FnOk P w K mg base CX0 1 fV fdV ["joins", "places"] spPMoved) (kV : PySem.W.keepIn K (.ref fV) = true) (bV : Binds K fdV ["joins", "places"] []) (gV : mg "moved" = some (.ref fV))
    (GA : FnOk P w K mg base CX0 1 fA fdA ["drawing", "legs"] (spAmong C D)) (kA : PySem.W.keepIn K (.ref fA) = true) (bA : Binds K fdA ["drawing", "legs"] []) (gA : mg "_places_among" = some (.ref fA))
    (GI : FnOk P w K mg base (L2.CX P w) 5 fI fdI ["self", "stock", "corners", "legs", "joins"] (spDInit C D)) (bI : Binds K fdI ["self", "stock", "corners", "legs", "joins"] []) :
    FnOk P w K mg base (L2.CX P w) 7 f fd ["drawing", "one", "other"] (spJoinLegs C D CJ) := by
  refine F.okX scJoinLegs (fun vs H Q E h => ?_) (fun cdv A outer s H vs Q E hr h => ?_)
  · obtain ⟨x, a, rows, ks, cs, lg, gs, ws, js, i1, i2, g1, g2, e1, e2', rfl, _⟩ := h
    rfl
  · obtain ⟨x, a, rows, ks, cs, lg, gs, ws, js, i1, i2, g1, g2, e1, e2', rfl, dg, gd, gk, mu, LG, SC, no, yes⟩ := h
    have hr1 : Room 1 _ := hr.mono (by decide)
    have hu65 : (A.deeper (envOfC "join_legs" (defScope sJoinLegs) s.heap.objs.size f cdv)).units + 65 < cLine := by
      have := hr.un
      omega
    refine ⟨_, (pss_cons (ps_setLc (i := 3) (own := [("leg", 4)]) (g := gName 4) (tt := tYes) (te := (tOp (rIxT K) (tVar 4) (tC (.int 0)))) rfl scJoinLegs.nd rfl rfl (sw_true rfl rfl rfl (by decide +kernel)) (pi_list (pe_fld (pv 0) rfl)) (blkOk_by (N := jlN) (sc := defScope sJoinLegs) (by decide +kernel)) (fun _ _ _ _ _ => pg_name (i := 4) scJoinLegs.nd rfl (Or.inl rfl)) (fun _ _ _ _ _ => pts_nil) (fun _ _ _ _ _ => (by exact (pe_ix ix_tup (pv 4) pe_int (fun _ _ => rfl)))))
      (pss_cons (ps_if (PW.pt (pw_or (pt_not (pt_val (pe_call GN hr1 (by rfl) gN kN bN .nil pass0 (pa_cons (pv 1) pa_nil)))) (pw_or (pt_not (pt_val (pe_call GN hr1 (by rfl) gN kN bN .nil pass0 (pa_cons (pv 2) pa_nil)))) (pw_or (pt_cmpR op_eq (pv 1) (pv 2) (nomark _)) (pw_or (pt_cmpR op_notIn_seq (pv 1) (pv 3) (by rfl)) (pw_or1 (pt_cmpR op_notIn_seq (pv 2) (pv 3) (by rfl)))))))) (pss_one (ps_raise rfl (takes_of rfl rfl rfl rfl) (pmk_own NF NXL.ex gxL NXL.kp (raises_own NXL.sb NXL.ty) (by rfl)))) pss_nil)
      (pss_cons (ps_set (i := 5) scJoinLegs.nd rfl (Or.inl rfl) (pe_callB call_len_seq (by rfl) M.len PySem.boot_len (pa_cons (pe_fld (pv 0) rfl) pa_nil)))
      (pss_cons (ps_set (i := 6) scJoinLegs.nd rfl (Or.inr rfl) (pe_lst (pa_cons (pe_op op_add (pv 5) (pe_bm PySem.F.plainAttrs_list PySem.F.slot_list_index PySem.F.type_list_index mt_index (pv 3) (pa_cons (pv 1) pa_nil))) (pa_cons (pe_op op_add (pv 5) (pe_bm PySem.F.plainAttrs_list PySem.F.slot_list_index PySem.F.type_list_index mt_index (pv 3) (pa_cons (pv 2) pa_nil))) pa_nil))))
      (pss_cons (ps_asg (pe_lc (own := [("place", 9)]) (g := gName 9) (tt := tYes) (te := (tCall (spBeyond C D) [] E0 (tCons (tVar 0) (tCons (tVar 9) tNil)))) rfl scJoinLegs.nd (pi_list (pv 6)) (blkOk_by (N := jlN) (sc := defScope sJoinLegs) (by decide +kernel)) (fun _ _ _ _ _ => pg_name (i := 9) scJoinLegs.nd rfl (Or.inl rfl)) (fun _ _ _ _ _ => pts_nil) (fun _ _ _ _ _ => (by exact (pe_call GB hr1 (by rfl) gB kB bB .nil pass0 (pa_cons (pv 0) (pa_cons (pv 9) pa_nil)))))) (pg_lst rfl (pgs_cons (pg_name (i := 7) scJoinLegs.nd rfl (Or.inl rfl)) (pgs_cons (pg_name (i := 8) scJoinLegs.nd rfl (Or.inl rfl)) pgs_nil))))
      (pss_cons (ps_if (PW.pt (pw_or (pt_cmpR op_in_seq (pe_ix ix_tup (pv 7) pe_int (fun _ _ => rfl)) (pv 6) (by rfl)) (pw_or1 (pt_cmpR (op_notInD hu65) (pe_tup (pa_cons (pe_ix ix_tup (pv 7) pe_int (fun _ _ => rfl)) (pa_cons (pe_ix ix_tup (pv 8) pe_int (fun _ _ => rfl)) pa_nil))) (pe_fld (pe_fld (pv 0) rfl) rfl) (by rfl))))) (pss_one (ps_raise rfl (takes_of rfl rfl rfl rfl) (pmk_own NF NXJ.ex gxJ NXJ.kp (raises_own NXJ.sb NXJ.ty) (by rfl)))) pss_nil)
      (pss_cons (ps_setLc (i := 10) (own := [("leg", 4)]) (g := gName 4) (tt := tTest (tOp (rIn K true) (tOp (rIxT K) (tVar 4) (tC (.int 0))) (tTup (tCons (tVar 1) (tCons (tVar 2) tNil))))) (te := (tVar 4)) rfl scJoinLegs.nd rfl rfl (sw_true rfl rfl rfl (by decide +kernel)) (pi_list (pe_fld (pv 0) rfl)) (blkOk_by (N := jlN) (sc := defScope sJoinLegs) (by decide +kernel)) (fun _ _ _ _ _ => pg_name (i := 4) scJoinLegs.nd rfl (Or.inl rfl)) (fun _ _ _ _ _ => pts_one (pt_cmpR op_notIn_seq (pe_ix ix_tup (pv 4) pe_int (fun _ _ => rfl)) (pe_tup (pa_cons (pv 1) (pa_cons (pv 2) pa_nil))) (by rfl))) (fun _ _ _ _ _ => (by exact (pv 4))))
      (pss_cons (ps_setLc (i := 11) (own := [("join", 12)]) (g := gName 12) (tt := tAnd (tTest (tOp (rIn K true) (tOp (rIxT K) (tVar 12) (tC (.int 0))) (tVar 6))) (tTest (tOp (rIn K true) (tOp (rIxT K) (tVar 12) (tC (.int 2))) (tVar 6)))) (te := (tVar 12)) rfl scJoinLegs.nd rfl rfl (sw_true rfl rfl rfl (by decide +kernel)) (pi_list (pe_fld (pv 0) rfl)) (blkOk_by (N := jlN) (sc := defScope sJoinLegs) (by decide +kernel)) (fun _ _ _ _ _ => pg_name (i := 12) scJoinLegs.nd rfl (Or.inl rfl)) (fun _ _ _ _ _ => pts_one (PW.pt (pw_and (pt_cmpR op_notIn_seq (pe_ix ix_tup (pv 12) pe_int (fun _ _ => rfl)) (pv 6) (by rfl)) (pw_and1 (pt_cmpR op_notIn_seq (pe_ix ix_tup (pv 12) pe_int (fun _ _ => rfl)) (pv 6) (by rfl)))))) (fun _ _ _ _ _ => (by exact (pv 12))))
      (pss_cons (ps_set (i := 13) scJoinLegs.nd rfl (Or.inl rfl) (pe_call GV hr1 (by rfl) gV kV bV .nil pass0 (pa_cons (pe_lst (StX.pa_star (pv 11) (pa_cons (pe_op op_catT (pv 7) (pv 8)) pa_nil))) (pa_cons (pe_call GA hr1 (by rfl) gA kA bA .nil pass0 (pa_cons (pv 0) (pa_cons (pv 10) pa_nil))) pa_nil))))
      (pss_one (ps_ret (pe_makeS (E := noE) makD GI hr (by rfl) TD.mgD bI (fun σ => passN σ) (pa_cons (pe_fld (pv 0) rfl) (pa_cons (pe_fld (pv 0) rfl) (pa_cons (pv 10) (pa_cons (pv 13) pa_nil)))))))))))))))), ?_⟩
    obtain ⟨dx, l1, l2, l3, hx, DI⟩ := id dg.ob
    obtain ⟨gv, eg, _, rg⟩ := dt_list DI.dg
    rw [DI.hg] at eg
    injection eg with eg
    injection eg with eg
    subst eg
    have lgl : gs.length = lg.length := by rw [rg.len, List.length_map]
    have lg6 := DI.lg6
    have cs6 := DI.l6
    have hc1 := SC.h1
    have hc2 := SC.h2
    have i1l := (List.getElem?_eq_some_iff.mp hc1).1
    have i2l := (List.getElem?_eq_some_iff.mp hc2).1
    have m1 := LG.nm g1 (List.mem_of_getElem? hc1)
    have m2 := LG.nm g2 (List.mem_of_getElem? hc2)
    have nn : g1.1 ≠ g2.1 := fun e => by
      have z1 := LG.nd.idxOf_getElem i1 (by rw [List.length_map]; exact i1l)
      have z2 := LG.nd.idxOf_getElem i2 (by rw [List.length_map]; exact i2l)
      rw [List.getElem_map, (List.getElem?_eq_some_iff.mp hc1).2] at z1
      rw [List.getElem_map, (List.getElem?_eq_some_iff.mp hc2).2] at z2
      have := SC.ne
      rw [← e] at z2
      omega
    -- the names
    refine ⟨_, rfl, x, D, dx, _, _, rfl, hx, TD.cl, TD.nL, df_legs _ _ _ _, l2, rfl, ⟨_, SqL.of DI.hg⟩, fun q1 nq1 => ?_⟩
    refine lc_mapW (walk_list (K := K) (a := l2) (xs := gs)) ((lg.map (·.1)).map V.str) (by rw [List.length_map, List.length_map, lgl]) (by omega) nq1 (fun H2 s2 => SqL.of (s2 _ _ DI.hg)) (fun i H x H' h => by rw [h.1]; exact Same.refl _) (fun i yv H2 H3 R hi s2 hyv hR => ?_) (fun H1 s1 hq1 => ?_)
    · obtain ⟨rfl, hyv⟩ := hyv
      obtain ⟨zz, hz, hzd⟩ := dtrowG_at rg hyv
      have hz' : lg[i]? = some zz := hz
      obtain ⟨q, rfl, tq⟩ := row_at rg hyv hz'
      refine ⟨rfl, _, rfl, q, _, 0, _, rfl, rfl, (tq.same s2).sq, ix0, hR _ _ ?_ (Same.refl _)⟩
      rw [List.getElem?_map, List.getElem?_map, hz']
      rfl
    have hx := s1 _ _ hx
    have DI := DI.same s1
    have rg := rg.same s1
    have ns1 : inV (.str g1.1) ((lg.map (·.1)).map V.str) = true := inV_str.mpr (List.mem_map_of_mem (f := (·.1)) (List.mem_of_getElem? hc1))
    have ns2 : inV (.str g2.1) ((lg.map (·.1)).map V.str) = true := inV_str.mpr (List.mem_map_of_mem (f := (·.1)) (List.mem_of_getElem? hc2))
    refine ⟨_, rfl, .str g1.1, .str g1.1, rfl, .str _ (okS_name m1), fun H2 s2 => ⟨_, rfl, ?_⟩⟩
    dsimp only
    rw [show nameD (.str g1.1) = true from m1, if_neg (by decide)]
    refine ⟨_, rfl, .str g2.1, .str g2.1, rfl, .str _ (okS_name m2), fun H3 s3 => ⟨_, rfl, ?_⟩⟩
    dsimp only
    rw [show nameD (.str g2.1) = true from m2, if_neg (by decide)]
    have s13 := s2.trans s3
    have hx := s13 _ _ hx
    have DI := DI.same s13
    have rg := rg.same s13
    have hq1 := s13 _ _ hq1
    have s1 := s1.trans s13
    refine ⟨_, rfl, _, rfl, rfl, _, rfl, ?_⟩
    rw [show decide (V.str g1.1 = V.str g2.1) = false from decide_eq_false (fun z => nn (by injection z))]
    dsimp only
    rw [if_neg (by decide)]
    refine ⟨_, rfl, _, rfl, q1, _, rfl, .inl (SqL.of hq1), rfl, flat_strs _, _, rfl, ?_⟩
    rw [ns1]
    dsimp only
    rw [if_pos rfl, if_neg (by decide)]
    refine ⟨_, rfl, _, rfl, q1, _, rfl, .inl (SqL.of hq1), rfl, flat_strs _, _, rfl, ?_⟩
    rw [ns2]
    dsimp only
    rw [if_pos rfl, if_neg (by decide)]
    -- the places of both
    refine ⟨_, rfl, x, D, dx, _, _, rfl, hx, TD.cl, TD.nC, df_corners _ _ _ _, l1, _, rfl, .inl (SqL.of DI.hc), ?_⟩
    have cl : (cs.map V.str).length = cs.length := List.length_map _
    rw [cl]
    refine ⟨_, rfl, _, rfl, .inl ⟨rfl, _, SqL.of hq1⟩, _, rfl, ?_⟩
    try delta tNil
    dsimp only
    refine index_str hq1 LG.nd (by rw [List.getElem?_map, hc1]; rfl) ⟨_, _, rfl, rfl, ?_⟩
    refine ⟨_, rfl, _, rfl, .inl ⟨rfl, _, SqL.of hq1⟩, _, rfl, ?_⟩
    try delta tNil
    dsimp only
    refine index_str hq1 LG.nd (by rw [List.getElem?_map, hc2]; rfl) ⟨_, _, rfl, rfl, by show 2 ≤ sizeLine; decide, fun q2 nq2 => ?_⟩
    have e2 : (fun i j : Int => V.int (i + j)) ((cs.length : Nat) : Int) ((i2 : Nat) : Int) = V.int ((cs.length + i2 : Nat) : Int) := by show V.int _ = V.int _; congr 1
    rw [e2, show ((cs.length : Nat) : Int) + ((i1 : Nat) : Int) = ((cs.length + i1 : Nat) : Int) by omega]
    have S := SC.at_
    have prm := DI.perm
    have x2 := same_new (o := .lst [.int ((cs.length + i1 : Nat) : Int), .int ((cs.length + i2 : Nat) : Int)]) nq2
    have hq2 : upd H3 q2 (.lst [.int ((cs.length + i1 : Nat) : Int), .int ((cs.length + i2 : Nat) : Int)]) q2 = some (.lst [.int ((cs.length + i1 : Nat) : Int), .int ((cs.length + i2 : Nat) : Int)]) := upd_same
    have hx := x2 _ _ hx
    have DI := DI.same x2
    have rg := rg.same x2
    have s1 := s1.trans x2
    generalize upd H3 q2 (.lst [.int ((cs.length + i1 : Nat) : Int), .int ((cs.length + i2 : Nat) : Int)]) = H4 at x2 hq2 hx DI rg s1 ⊢
    clear x2 hq1 s2 s3 s13 nq2
    -- the ends beyond
    refine ⟨_, rfl, q2, rfl, ⟨_, SqL.of hq2⟩, fun D2 nD2 => ?_⟩
    refine lc_it (walk_list (K := K) (a := q2) (xs := [.int ((cs.length + i1 : Nat) : Int), .int ((cs.length + i2 : Nat) : Int)])) (fun i H' => Same H4 (del H' D2) ∧ ∃ vs, H' D2 = some (.lst vs) ∧ EndsAt (del H' D2) vs ([e1, e2'].take i)) ⟨same_del' nD2, [], upd_same, .nil⟩ (fun i H' _ h => SqL.of (del_sub _ _ (h.1 _ _ hq2))) ?_ ?_
    · rintro i xv H5 H6 hi ⟨s5, vs, hD5, ev5⟩ ⟨rfl, hxv⟩
      obtain ⟨pp, ee, rfl, hb, hee⟩ : ∃ (pp : Nat) (ee : End), xv = .int (pp : Nat) ∧ beyJ pp js = some ee ∧ [e1, e2'][i]? = some ee := by
        match i, hi, hxv with
        | 0, _, hxv => exact ⟨_, e1, (Option.some.inj hxv).symm, S.b1, rfl⟩
        | 1, _, hxv => exact ⟨_, e2', (Option.some.inj hxv).symm, S.b2, rfl⟩
      have z5 := s5.trans (del_sub (H := H6) (p := D2))
      refine ⟨rfl, _, rfl, _, rfl, x, a, pp, rows, ks, cs, lg, gs, ws, js, ee, rfl, ⟨⟨dx, l1, l2, l3, z5 _ _ hx, DI.same z5⟩⟩, hb, fun t H7 s7 tt => ?_⟩
      have hD7 := s7 _ _ hD5
      have lv := ev5.len
      have i2 : i < 2 := hi
      have s57 := s5.trans (same_del (l := D2) s7)
      have ev7 := ev5.same (same_del (l := D2) s7)
      have ntD : t ≠ D2 := fun e => by
        subst e
        rcases tt.rd with r | ⟨o, r⟩ <;> (rw [hD7] at r; cases r)
      have ttD : TupAt (del H7 D2) t [.int (ee.1 : Nat), .str ee.2] := ⟨tt.rd.elim (fun r => .inl (by rw [del_ne ntD]; exact r)) fun ⟨o, r⟩ => .inr ⟨o, by rw [del_ne ntD]; exact r⟩⟩
      refine ⟨_, hD7, small1000 (by rw [lv, List.length_take]; omega), s57.trans del_upd_same, _, upd_same, ?_⟩
      rw [take_snoc hee]
      exact (ev7.same del_upd_same).app (.cons ⟨t, rfl, ttD.same del_upd_same⟩ .nil)
    rintro H5 ⟨s5, vs, hD5, ev5⟩
    rw [List.take_of_length_le (by exact Nat.le_refl 2)] at ev5
    obtain ⟨t1, t2, rfl, tt1, tt2⟩ : ∃ t1 t2, vs = [.ref t1, .ref t2] ∧ TupAt H5 t1 [.int (e1.1 : Nat), .str e1.2] ∧ TupAt H5 t2 [.int (e2'.1 : Nat), .str e2'.2] := by
      have ev := ev5.same (del_sub (H := H5) (p := D2))
      cases ev with
      | cons h r =>
        cases r with
        | cons h2 r2 =>
          cases r2
          obtain ⟨a1, rfl, b1⟩ := h
          obtain ⟨a2, rfl, b2⟩ := h2
          exact ⟨a1, a2, rfl, b1, b2⟩
    have z5 := s5.trans (del_sub (H := H5) (p := D2))
    have hx := z5 _ _ hx
    have DI := DI.same z5
    have rg := rg.same z5
    have s1 := s1.trans z5
    have hq2 := z5 _ _ hq2
    clear s5 ev5 z5
    refine ⟨D2, _, rfl, SqL.of hD5, rfl, _, _, rfl, _, _, rfl, rfl, ?_⟩
    clear hD5 nD2
    -- joined with one another, or no partners
    refine ⟨_, rfl, t1, _, 0, _, rfl, rfl, tt1.sq, ix0, _, rfl, q2, _, rfl, .inl (SqL.of hq2), rfl, rfl, _, rfl, ?_⟩
    rw [show (inV (.int (e1.1 : Nat)) [.int ((cs.length + i1 : Nat) : Int), .int ((cs.length + i2 : Nat) : Int)]) = decide (e1.1 = cs.length + i1 ∨ e1.1 = cs.length + i2) from inV_int]
    dsimp only
    rw [if_neg Bool.false_ne_true]
    by_cases c : e1.1 = cs.length + i2
    · rw [decide_eq_true (.inr c), if_pos rfl]
      exact no (.inl c) _ s1
    rw [decide_eq_false (by rintro (h | h); exact S.n1 h; exact c h), if_neg (by decide)]
    refine ⟨_, rfl, t1, _, 1, _, rfl, rfl, tt1.sq, ix1, _, rfl, t2, _, 1, _, rfl, rfl, tt2.sq, ix1, by show 2 ≤ sizeLine; decide, fun ts nts => ?_⟩
    have nm : ∀ e ∈ js.map (·.1) ++ js.map (·.2), nameS e.2 = true := fun e he => DI.nam e (prm.mem_iff.mp he)
    have x6 := same_new (o := .tup [.str e1.2, .str e2'.2]) nts
    have dts : Dt (upd H5 ts (.tup [.str e1.2, .str e2'.2])) (.ref ts) (rowT (e1.2, e2'.2)) := .tup (.of upd_same) (by show 2 ≤ 1000; decide) (.cons (.str _ (okS_name (nm _ S.m1))) (.cons (.str _ (okS_name (nm _ S.m2))) .nil))
    have hx := x6 _ _ hx
    have DI := DI.same x6
    have rg := rg.same x6
    have s1 := s1.trans x6
    have hq2 := x6 _ _ hq2
    have tt1 := tt1.same x6
    have tt2 := tt2.same x6
    generalize upd H5 ts (.tup [.str e1.2, .str e2'.2]) = H6 at x6 dts hx DI rg s1 hq2 tt1 tt2 ⊢
    clear x6 nts
    obtain ⟨⟨da, sl, sm, ea, ds1, dk1⟩, _, _⟩ := id DI.sg.g.at_
    have lr := low_rows rows
    have lr1 := low_row20 (e1.2, e2'.2)
    refine ⟨_, rfl, x, D, dx, _, _, rfl, hx, TD.cl, TD.nS, df_stock _ _ _ _, a, C, da, _, _, rfl, ea, T.cl, T.nS, sf_sorts _ _, rowT (e1.2, e2'.2), rows.map rowT, dts.dp lr1.nd, ds1.dp lr.nd, shape_of dts lr1, shape_of ds1 lr, _, rfl, ?_⟩
    rw [any_rows]
    by_cases c2 : (e1.2, e2'.2) ∈ rows
    · rw [decide_eq_true c2]
      dsimp only
      rw [if_neg (by decide)]
      -- the legs that are left
      refine ⟨_, rfl, x, D, dx, _, _, rfl, hx, TD.cl, TD.nL, df_legs _ _ _ _, l2, rfl, ⟨_, SqL.of DI.hg⟩, fun D3 nD3 => ?_⟩
      refine lc_it (walk_list (K := K) (a := l2) (xs := gs)) (fun i H' => Same H6 (del H' D3) ∧ ∃ vs, H' D3 = some (.lst vs) ∧ DtAll (del H' D3) vs ((sewL (lg.take i) g1.1 g2.1).map rowT)) ⟨same_del' nD3, [], upd_same, .nil⟩ (fun i H' _ h => SqL.of (del_sub _ _ (h.1 _ _ DI.hg))) ?_ ?_
      · rintro i xv H7 H8 hi ⟨s7, vs, hD7, dv7⟩ ⟨rfl, hxv⟩
        obtain ⟨zz, hz, hzd⟩ := dtrowG_at rg hxv
        have hz' : lg[i]? = some zz := hz
        obtain ⟨q, rfl, tq⟩ := row_at rg hxv hz'
        have z7 := s7.trans (del_sub (H := H8) (p := D3))
        refine ⟨rfl, ?_⟩
        refine ⟨_, rfl, q, _, 0, _, rfl, rfl, (tq.same z7).sq, ix0, _, rfl, _, rfl, by show 2 ≤ sizeLine; decide, fun tt ntt => ?_⟩
        have x8 := same_new (o := .tup [.str g1.1, .str g2.1]) ntt
        have hD9 := x8 _ _ hD7
        have s9 := s7.trans (same_del (l := D3) x8)
        have dv9 := dv7.same (same_del (l := D3) x8)
        refine ⟨tt, _, rfl, .inr (TupAt.of upd_same).sq, rfl, rfl, _, rfl, ?_⟩
        generalize upd H8 tt (.tup [.str g1.1, .str g2.1]) = H9 at x8 hD9 s9 dv9 ⊢
        rw [inV_two, if_pos (rfl : true = true)]
        have e0 := sewL_snoc g1.1 g2.1 (lg.take i) zz
        rw [← take_snoc hz'] at e0
        have lx := dv9.len
        have lo : (sewL (lg.take i) g1.1 g2.1).length ≤ 6 := by
          refine Nat.le_trans (List.length_filter_le _ _) ?_
          rw [List.length_take]
          omega
        rw [List.length_map] at lx
        refine ite2 (fun c => ?_) (fun c => ?_)
        · have cn : zz.1 ≠ g1.1 ∧ zz.1 ≠ g2.1 := by
            by_cases h : zz.1 = g1.1 ∨ zz.1 = g2.1
            · rw [decide_eq_true h] at c
              cases c
            · exact ⟨fun e => h (.inl e), fun e => h (.inr e)⟩
          refine ⟨_, rfl, _, hD9, small1000 (by omega), s9.trans del_upd_same, _, upd_same, ?_⟩
          rw [e0, if_pos cn, List.map_append]
          exact (dv9.same del_upd_same).app (.cons ((hzd.same s9).same del_upd_same) .nil)
        · have cn : ¬ (zz.1 ≠ g1.1 ∧ zz.1 ≠ g2.1) := fun h => c (by rw [decide_eq_false (by rintro (e | e); exact h.1 e; exact h.2 e)]; rfl)
          refine ⟨s9, vs, hD9, ?_⟩
          rw [e0, if_neg cn]
          exact dv9
      rintro H7 ⟨s7, gv, hga, dgv⟩
      rw [lgl, List.take_of_length_le (Nat.le_refl _)] at dgv
      have z7 := s7.trans (del_sub (H := H7) (p := D3))
      have dgv := dgv.same (del_sub (H := H7) (p := D3))
      have LGs := LG.sew g1.1 g2.1
      have lgv := dgv.len
      rw [List.length_map] at lgv
      have lg6' := LGs.l6
      have dga : Dt H7 (.ref D3) (.list ((sewL lg g1.1 g2.1).map rowT)) := .lst hga (by omega) dgv
      have hx := z7 _ _ hx
      have DI := DI.same z7
      have rg := rg.same z7
      have s1 := s1.trans z7
      have hq2 := z7 _ _ hq2
      have tt1 := tt1.same z7
      have tt2 := tt2.same z7
      clear s7 z7 nD3 ds1 ea
      -- the joins that are left
      have lws := DI.ja.len
      have lw40 := DI.lw
      refine ⟨_, rfl, x, D, dx, _, _, rfl, hx, TD.cl, TD.nJ, df_joins _ _ _ _, l3, rfl, ⟨_, SqL.of DI.hl⟩, fun D4 nD4 => ?_⟩
      refine lc_it (walk_list (K := K) (a := l3) (xs := ws)) (fun i H' => Same H7 (del H' D4) ∧ ∃ vs, H' D4 = some (.lst vs) ∧ JoinsAt (del H' D4) vs (sewR (cs.length + i1) (cs.length + i2) (js.take i))) ⟨same_del' nD4, [], upd_same, .nil⟩ (fun i H' _ h => SqL.of (del_sub _ _ (h.1 _ _ DI.hl))) ?_ ?_
      · rintro i xv H8 H9 hi ⟨s8, vs, hD8, jv8⟩ ⟨rfl, hxv⟩
        obtain ⟨j, tj, hj, rfl, tq⟩ := joins_at DI.ja hxv
        have z8 := s8.trans (del_sub (H := H9) (p := D4))
        have tq8 := tq.same s8
        have tq9 := tq8.same (del_sub (H := H9) (p := D4))
        have hq9 := z8 _ _ hq2
        refine ⟨rfl, ?_⟩
        refine ⟨_, rfl, tj, _, 0, _, rfl, rfl, tq9.sq, ix0, _, rfl, q2, _, rfl, .inl (SqL.of hq9), rfl, rfl, _, rfl, ?_⟩
        rw [show (inV (.int (j.1.1 : Nat)) [.int ((cs.length + i1 : Nat) : Int), .int ((cs.length + i2 : Nat) : Int)]) = decide (j.1.1 = cs.length + i1 ∨ j.1.1 = cs.length + i2) from inV_int, if_pos (rfl : true = true)]
        have e0 := sewR_snoc (cs.length + i1) (cs.length + i2) (js.take i) j
        rw [← take_snoc hj] at e0
        have lx := jv8.len
        have lo : (sewR (cs.length + i1) (cs.length + i2) (js.take i)).length ≤ 40 := by
          refine Nat.le_trans (List.length_filter_le _ _) ?_
          rw [List.length_take]
          omega
        refine ite2 (fun ca => ?_) (fun ca => ?_)
        · have a1 : ¬ (j.1.1 = cs.length + i1 ∨ j.1.1 = cs.length + i2) := fun h => by
            rw [decide_eq_true h] at ca
            cases ca
          refine ⟨_, rfl, tj, _, 2, _, rfl, rfl, tq9.sq, ix2, _, rfl, q2, _, rfl, .inl (SqL.of hq9), rfl, rfl, _, rfl, ?_⟩
          rw [show (inV (.int (j.2.1 : Nat)) [.int ((cs.length + i1 : Nat) : Int), .int ((cs.length + i2 : Nat) : Int)]) = decide (j.2.1 = cs.length + i1 ∨ j.2.1 = cs.length + i2) from inV_int, if_pos (rfl : true = true)]
          refine ite2 (fun cb => ?_) (fun cb => ?_)
          · have a2 : ¬ (j.2.1 = cs.length + i1 ∨ j.2.1 = cs.length + i2) := fun h => by
              rw [decide_eq_true h] at cb
              cases cb
            have ff : farJ (cs.length + i1) (cs.length + i2) j = true := decide_eq_true ⟨⟨fun e => a1 (.inl e), fun e => a1 (.inr e)⟩, ⟨fun e => a2 (.inl e), fun e => a2 (.inr e)⟩⟩
            refine ⟨_, rfl, _, hD8, small1000 (by omega), s8.trans del_upd_same, _, upd_same, ?_⟩
            rw [e0, if_pos ff]
            exact (jv8.same del_upd_same).app (.cons ⟨tj, rfl, tq8.same del_upd_same⟩ .nil)
          · have ff : ¬ farJ (cs.length + i1) (cs.length + i2) j = true := fun h => cb (by
              have := of_decide_eq_true h
              rw [decide_eq_false (by rintro (e | e); exact this.2.1 e; exact this.2.2 e)]
              rfl)
            refine ⟨s8, vs, hD8, ?_⟩
            rw [e0, if_neg ff]
            exact jv8
        · have ff : ¬ farJ (cs.length + i1) (cs.length + i2) j = true := fun h => ca (by
            have := of_decide_eq_true h
            rw [decide_eq_false (by rintro (e | e); exact this.1.1 e; exact this.1.2 e)]
            rfl)
          dsimp only
          rw [if_neg Bool.false_ne_true]
          refine ⟨s8, vs, hD8, ?_⟩
          rw [e0, if_neg ff]
          exact jv8
      rintro H8 ⟨s8, wl, hwl, jwl⟩
      rw [lws, List.take_of_length_le (Nat.le_refl _)] at jwl
      have z8 := s8.trans (del_sub (H := H8) (p := D4))
      have jwl := jwl.same (del_sub (H := H8) (p := D4))
      have hx := z8 _ _ hx
      have DI := DI.same z8
      have rg := rg.same z8
      have s1 := s1.trans z8
      have hq2 := z8 _ _ hq2
      have tt1 := tt1.same z8
      have tt2 := tt2.same z8
      have dga := dga.same z8
      clear s8 z8 nD4
      generalize eLG : sewL lg g1.1 g2.1 = legs at dga dgv LGs lgv lg6' yes
      -- all joins
      obtain ⟨y2, _⟩ := sew_split prm SC.ne hc1 hc2 S c
      refine ⟨_, rfl, D4, wl, rfl, .inr (SqL.of hwl), ?_⟩
      refine ⟨_, rfl, _, rfl, t1, t2, _, _, rfl, rfl, tt1.sq, tt2.sq, (by intro z; cases z), (by show 4 ≤ sizeLine; decide), (fun z => nomatch z), fun _ v nv => ?_⟩
      have x9 := same_new (o := .tup ([.int (e1.1 : Nat), .str e1.2] ++ [.int (e2'.1 : Nat), .str e2'.2])) nv
      have hv : upd H8 v (.tup ([.int (e1.1 : Nat), .str e1.2] ++ [.int (e2'.1 : Nat), .str e2'.2])) v = some (.tup (joinV (e1, e2'))) := upd_same
      have hx := x9 _ _ hx
      have DI := DI.same x9
      have rg := rg.same x9
      have s1 := s1.trans x9
      have dga := dga.same x9
      have jwl := jwl.same x9
      have hwl := x9 _ _ hwl
      have lwl := jwl.len
      have lwl2 : (sewR (cs.length + i1) (cs.length + i2) js).length ≤ 40 := Nat.le_trans (List.length_filter_le _ _) (by omega)
      generalize upd H8 v (.tup ([.int (e1.1 : Nat), .str e1.2] ++ [.int (e2'.1 : Nat), .str e2'.2])) = H9 at x9 hv hx DI rg s1 dga jwl hwl ⊢
      refine ⟨by rw [sizeLine_eq]; show (wl ++ [V.ref v]).length ≤ _; rw [List.length_append]; show wl.length + 1 ≤ _; omega, fun ll nll => ?_⟩
      have x10 := same_new (o := .lst (wl ++ [.ref v])) nll
      have hll : upd H9 ll (.lst (wl ++ [.ref v])) ll = some (.lst (wl ++ [.ref v])) := upd_same
      have jall : JoinsAt H9 (wl ++ [.ref v]) (sewR (cs.length + i1) (cs.length + i2) js ++ [(e1, e2')]) := jwl.app (.cons ⟨v, rfl, .of hv⟩ .nil)
      have hx := x10 _ _ hx
      have DI := DI.same x10
      have rg := rg.same x10
      have s1 := s1.trans x10
      have dga := dga.same x10
      have jall := jall.same x10
      refine ⟨_, rfl, _, rfl, x, a, D3, rows, ks, cs, lg, legs, gs, ws, js, rfl, ⟨⟨dx, l1, l2, l3, hx, DI⟩⟩, dga, by omega, nodup_of_names LGs.nd, fun P1 H12 s12 hP1 => ?_⟩
      have hll12 := s12 _ _ hll
      have hx := s12 _ _ hx
      have DI := DI.same s12
      have s1 := s1.trans s12
      have dga := dga.same s12
      have jall := jall.same s12
      have plc := DI.places
      have bound : ∀ e ∈ js.map (·.1) ++ js.map (·.2), e.1 < cs.length + lg.length := fun e he => endI_places (nums := []) (prm.mem_iff.mp he)
      have inL : ∀ k z, lg[k]? = some z → k ≠ i1 → k ≠ i2 → z ∈ legs := fun k z hz n1 n2 => by
        rw [← eLG]
        refine List.mem_filter.mpr ⟨List.mem_of_getElem? hz, ?_⟩
        have other : ∀ {i : Nat} {g : Str × Str}, lg[i]? = some g → k ≠ i → z.1 ≠ g.1 := fun {i g} hg ne e => by
          obtain ⟨la, ea⟩ := List.getElem?_eq_some_iff.mp hz
          obtain ⟨lb, eb⟩ := List.getElem?_eq_some_iff.mp hg
          have z1 := LG.nd.idxOf_getElem k (by rw [List.length_map]; exact la)
          have z2 := LG.nd.idxOf_getElem i (by rw [List.length_map]; exact lb)
          rw [List.getElem_map, ea] at z1
          rw [List.getElem_map, eb, ← e] at z2
          omega
        exact decide_eq_true ⟨other hc1 n1, other hc2 n2⟩
      have getP : ∀ p, p < cs.length + lg.length → p ≠ cs.length + i1 → p ≠ cs.length + i2 → (intsV (List.range cs.length) ++ lg.map fun z => if z ∈ legs then V.int ((cs.length + legs.idxOf z : Nat) : Int) else .non)[p]? = some (.int (plN (bsP 0 cs.length cs.length legs lg) p : Nat)) := fun p hp n1 n2 => among_get hp fun k z e hz => inL k z hz (by omega) (by omega)
      have gnn : GoodN rows (e1, e2') := ⟨c2, nm _ S.m1, nm _ S.m2⟩
      refine ⟨ll, P1, wl ++ [.ref v], sewR (cs.length + i1) (cs.length + i2) js ++ [(e1, e2')], bsP 0 cs.length cs.length legs lg, _, rows, rfl, hll12, jall, hP1, by rw [List.length_append]; show _ + 1 ≤ 60; omega, mu, fun i hi => ?_, fun i hi => ?_, fun r wr H13 nr s13 hr13 jr => ?_⟩
      · rcases List.mem_append.mp hi with h | h
        · exact (DI.gj i (List.mem_filter.mp h).1).gn
        · rw [List.mem_singleton.mp h]
          exact gnn
      · rcases List.mem_append.mp hi with h | h
        · obtain ⟨h1, h2⟩ := List.mem_filter.mp h
          have h3 := of_decide_eq_true h2
          exact ⟨getP _ (plc i h1).1 h3.1.1 h3.1.2, getP _ (plc i h1).2 h3.2.1 h3.2.2⟩
        · rw [List.mem_singleton.mp h]
          exact ⟨getP _ (bound _ S.m1) S.n1 c, getP _ (bound _ S.m2) y2 S.n2⟩
      have z13 := s13.trans (del_sub (H := H13) (p := r))
      have hx := z13 _ _ hx
      have DI := DI.same z13
      have s1 := s1.trans z13
      have dga := dga.same z13
      have jrR := jr.same (del_sub (H := H13) (p := r))
      -- the drawing
      refine ⟨_, rfl, x, D, dx, _, _, rfl, hx, TD.cl, TD.nS, df_stock _ _ _ _, _, rfl, x, D, dx, _, _, rfl, hx, TD.cl, TD.nC, df_corners _ _ _ _, _, rfl, _, rfl, ?_⟩
      obtain ⟨gv2, hg2, _, _⟩ := dt_list dga
      have pe := sew_ends prm LG.nd SC.ne hc1 hc2 S c
      rw [eLG] at pe
      have DIn := din_of gd gk DI.sg cs6 DI.hcs LGs DI.hc hg2 dga hr13 jrR pe (sew_good mu DI.gj gnn)
      exact fun z dz nz ndz nez => make_drw nz ndz nez DIn fun HF dn sF => ⟨rfl, yes c c2 z gv2 wr HF (s1.free nz) (dn.drg DIn sF) (s1.trans sF)⟩
    · rw [decide_eq_false c2]
      dsimp only
      rw [if_pos (by decide)]
      exact no (.inr c2) _ s1
end
end Toy
set_option Elab.async false
set_option linter.all false
set_option maxRecDepth 100000
set_option maxHeartbeats 4000000
namespace Toy
open PySem PySem.Spec PyProof.Rows L2
def spPMovedD : Sp := fun vs H Q _ => ∃ (u q : Addr) (ws : List V) (js : List JRow) (pl : List Nat) (kvs : List (Key × V)) (rows : Rows2), vs = [.ref u, .ref q] ∧ H u = some (.lst ws) ∧ JoinsAt H ws js ∧ H q = some (.dK kvs) ∧ js.length ≤ 60 ∧ Mut rows ∧ (∀ j ∈ js, GoodN rows j) ∧ (∀ j ∈ js, valV kvs (Sum.inl ((j.1.1 : Nat) : Int)) = some (.int (plN pl j.1.1 : Nat)) ∧ valV kvs (Sum.inl ((j.2.1 : Nat) : Int)) = some (.int (plN pl j.2.1 : Nat))) ∧
  ∀ (r : Addr) (ws' : List V) (H' : Hp), H r = none → Same H (del H' r) → H' r = some (.lst ws') → JoinsAt (del H' r) ws' (movedJ pl js) → Q (.ref r) H'
section
variable {P : Program} {w : World} {K : PySem.W.Frag} {mg : Str → Option Value} {base : Heap}
theorem ok_pmovedD {f : Addr} {fd : FuncData} (F : Fun K "moved" "moved" sPMoved f fd) (M : Mods mg) (mMn : mg "min" = none) (mMx : mg "max" = none) :
    FnOk P w K mg base CX0 1 f fd ["joins", "places"] spPMovedD := by
  refine F.ok scPMoved (fun vs H Q E h => ?_) (fun cdv A outer s H vs Q E hr h => ?_)
  · obtain ⟨u, q, ws, js, pl, kvs, rows, rfl, _⟩ := h
    rfl
  · obtain ⟨u, q, ws, js, pl, kvs, rows, rfl, hu, jv, hq, l60, mu, gj, hpl, k⟩ := h
    refine ⟨_, (pss_cons (ps_set (i := 2) scPMoved.nd rfl (Or.inl rfl) (pe_lst pa_nil))
      (pss_cons (ps_for PassesOwn.never rfl (pi_list (pv 0)) (pg_tup rfl (pgs_cons (pg_name (i := 3) scPMoved.nd rfl (Or.inl rfl)) (pgs_cons (pg_name (i := 4) scPMoved.nd rfl (Or.inl rfl)) (pgs_cons (pg_name (i := 5) scPMoved.nd rfl (Or.inl rfl)) (pgs_cons (pg_name (i := 6) scPMoved.nd rfl (Or.inl rfl)) pgs_nil))))) (pss_cons (ps_set (i := 7) scPMoved.nd rfl (Or.inl rfl) (pe_tup (pa_cons (pe_dget (hu_of hr) (pv 1) (pv 3) (fun _ _ => rfl)) (pa_cons (pv 4) pa_nil))))
      (pss_cons (ps_set (i := 8) scPMoved.nd rfl (Or.inl rfl) (pe_tup (pa_cons (pe_dget (hu_of hr) (pv 1) (pv 5) (fun _ _ => rfl)) (pa_cons (pv 6) pa_nil))))
      (pss_one (ps_expr (pe_bm PySem.F.plainAttrs_list PySem.F.slot_list_append PySem.F.type_list_append mt_append (pv 2) (pa_cons (pe_op op_catT (pe_callB (cr_min2D rfl hr.units) (by rfl) mMn (by decide +kernel) (pa_cons (pv 7) (pa_cons (pv 8) pa_nil))) (pe_callB (cr_max2D rfl hr.units) (by rfl) mMx (by decide +kernel) (pa_cons (pv 7) (pa_cons (pv 8) pa_nil)))) pa_nil)))))))
      (pss_one (ps_ret (pe_callB (cr_sortD hr.units) (by rfl) M.srt (by decide +kernel) (pa_cons (pv 2) pa_nil)))))), ?_⟩
    have lws := jv.len
    refine ⟨Nat.zero_le _, fun D nD => ?_⟩
    refine ⟨_, rfl, u, rfl, ⟨_, SqL.of (same_new nD _ _ hu)⟩, for_it (walk_list (K := K) (a := u) (xs := ws)) (fun i σ H' => (∃ y3 y4 y5 y6 y7 y8, σ = [some (.ref u), some (.ref q), some (.ref D), y3, y4, y5, y6, y7, y8]) ∧ Same H (del H' D) ∧ ∃ vs, H' D = some (.lst vs) ∧ JoinsAt (del H' D) vs ((js.take i).map (jmv pl)))
      ⟨⟨none, none, none, none, none, none, rfl⟩, same_del' nD, [], upd_same, .nil⟩ (fun i σ H' _ h => SqL.of (del_sub _ _ (h.2.1 _ _ hu))) ?_ ?_⟩
    · rintro i x σ H30 H3 hi ⟨⟨y3, y4, y5, y6, y7, y8, rfl⟩, s3, vs3, hD3, jv3⟩ ⟨rfl, hx⟩
      obtain ⟨j, t, hj, rfl, tq⟩ := joins_at jv hx
      have hm := List.mem_of_getElem? hj
      have s03 := s3.trans (del_sub (H := H3) (p := D))
      obtain ⟨b1, b2⟩ := hpl j hm
      have n1 := (gj j hm).n1
      have n2 := (gj j hm).n2
      refine ⟨t, _, rfl, (tq.same s03).sq, rfl, _, _, rfl, _, _, rfl, _, _, rfl, _, _, rfl, rfl, ?_⟩
      refine ⟨_, rfl, _, rfl, q, _, rfl, (by rw [← b1]; exact DGet.k (k := Sum.inl ((j.1.1 : Nat) : Int)) (s03 _ _ hq)), _, rfl, by show 2 ≤ sizeLine; decide, fun t1 nt1 => ?_⟩
      have x1 := same_new (o := .tup [.int (plN pl j.1.1 : Nat), .str j.1.2]) nt1
      have ht1 : upd H3 t1 (.tup [.int (plN pl j.1.1 : Nat), .str j.1.2]) t1 = some (.tup [.int (plN pl j.1.1 : Nat), .str j.1.2]) := upd_same
      have hD4 := x1 _ _ hD3
      have s4 := s3.trans (same_del (l := D) x1)
      have jv4 := jv3.same (same_del (l := D) x1)
      generalize upd H3 t1 (.tup [.int (plN pl j.1.1 : Nat), .str j.1.2]) = H4 at x1 ht1 hD4 s4 jv4 ⊢
      have s04 := s4.trans (del_sub (H := H4) (p := D))
      refine ⟨_, rfl, _, rfl, q, _, rfl, (by rw [← b2]; exact DGet.k (k := Sum.inl ((j.2.1 : Nat) : Int)) (s04 _ _ hq)), _, rfl, by show 2 ≤ sizeLine; decide, fun t2 nt2 => ?_⟩
      have x2 := same_new (o := .tup [.int (plN pl j.2.1 : Nat), .str j.2.2]) nt2
      have ht2 : upd H4 t2 (.tup [.int (plN pl j.2.1 : Nat), .str j.2.2]) t2 = some (.tup [.int (plN pl j.2.1 : Nat), .str j.2.2]) := upd_same
      have ht1 := x2 _ _ ht1
      have hD5 := x2 _ _ hD4
      have s5 := s4.trans (same_del (l := D) x2)
      have jv5 := jv4.same (same_del (l := D) x2)
      generalize upd H4 t2 (.tup [.int (plN pl j.2.1 : Nat), .str j.2.2]) = H5 at x2 ht1 ht2 hD5 s5 jv5 ⊢
      have w1 : TupAt H5 t1 [.int ((plE pl j.1).1 : Nat), .str (plE pl j.1).2] := .of ht1
      have w2 : TupAt H5 t2 [.int ((plE pl j.2).1 : Nat), .str (plE pl j.2).2] := .of ht2
      obtain ⟨dps, al, dep⟩ := best_end (K := K) (e := plE pl j.1) (f := plE pl j.2) n1 n2 w1 w2
      refine ⟨_, rfl, .inl ⟨rfl, _, SqL.of hD5⟩, _, rfl, _, rfl, (endT (plE pl j.1), .ref t1), (endT (plE pl j.2), .ref t2), rfl, dps, al, dep, fun ya hya eya => ?_⟩
      obtain ⟨ta, ea, wa⟩ := pick_end w1 w2 hya (eya.trans (min_endT (plE pl j.1, plE pl j.2)))
      rw [ea]
      refine ⟨_, rfl, _, rfl, (endT (plE pl j.1), .ref t1), (endT (plE pl j.2), .ref t2), rfl, dps, al, dep, fun yb hyb eyb => ?_⟩
      obtain ⟨tb, eb, wb⟩ := pick_end w1 w2 hyb (eyb.trans (max_endT (plE pl j.1, plE pl j.2)))
      rw [eb]
      refine ⟨ta, tb, _, _, rfl, rfl, wa.sq, wb.sq, (by intro z; cases z), (by show 4 ≤ sizeLine; decide), (fun z => nomatch z), fun _ v nv => ?_⟩
      have nvD : v ≠ D := (ne_of_none hD5 nv).symm
      have x6 := same_new (o := .tup (joinV (jmv pl j))) nv
      have hv : upd H5 v (.tup (joinV (jmv pl j))) v = some (.tup (joinV (jmv pl j))) := upd_same
      have hD6 := x6 _ _ hD5
      have lv : vs3.length ≤ 60 := by
        have z := jv3.len
        rw [List.length_map, List.length_take] at z
        omega
      refine ⟨D, vs3, .ref v, rfl, rfl, hD6, by rw [sizeLine_eq]; omega, ?_⟩
      have s6 := s5.trans (same_del (l := D) x6)
      refine ⟨⟨_, _, _, _, _, _, rfl⟩, s6.trans del_upd_same, vs3 ++ [.ref v], upd_same, ?_⟩
      rw [take_snoc hj, List.map_append]
      refine ((jv5.same (same_del (l := D) x6)).same del_upd_same).app (.cons ⟨v, rfl, .of ?_⟩ .nil)
      rw [del_ne nvD]
      show upd _ D _ v = _
      rw [upd_ne nvD]
      exact hv
    · rintro σ H3 ⟨⟨y3, y4, y5, y6, y7, y8, rfl⟩, s3, vs3, hD3, jv3⟩
      rw [lws, List.take_of_length_le (Nat.le_refl _)] at jv3
      have g0 : ∀ j ∈ js.map (jmv pl), GoodJ rows j := fun j hj => by
        obtain ⟨i, hi, rfl⟩ := List.mem_map.mp hj
        exact jrow_good mu (p := (plE pl i.1, plE pl i.2)) (gj i hi).pr (gj i hi).n1 (gj i hi).n2
      have l5 := jv3.len
      rw [List.length_map] at l5
      have d5 : Dt H3 (.ref D) (.list ((js.map (jmv pl)).map joinT)) := .lst hD3 (by omega) ((jv3.same del_sub).dt g0)
      refine ⟨_, rfl, ?_⟩
      delta tNil
      try dsimp only
      refine sort_okN d5 (fun d hd => by obtain ⟨e, _, rfl⟩ := List.mem_map.mp hd; exact ⟨(low_joinT e).nd, (low_joinT e).dep⟩) (alike_joins _) (sortable_joins _) fun pj H6 wsj npj ews rws s6 => ?_
      rw [sortD_J] at rws
      have h03 := s3.trans (del_sub (H := H3) (p := D))
      exact k pj wsj H6 (h03.free npj) (h03.trans s6) ews (joins_back rws)
end
end Toy
set_option Elab.async false
set_option linter.all false
set_option maxRecDepth 100000
set_option maxHeartbeats 3200000
namespace PySem
open PyProof.Rows Toy
section
variable {prog : Program} {w : World} {A : Around} {E : Value → Shared → Prop} {s : Shared}
theorem toy_setI {l : Addr} {items : Array Value} {ks : List Int} {Q : Value → Shared → Prop} (hh : A.handled = none) (hl : s.heap.IsList l items) (hlen : items.size = ks.length) (room : ks.length + 1 < scanBound)
    (hv : ∀ (i : Nat) v, items[i]? = some v → ∃ k t, ks[i]? = some k ∧ v = .int k t)
    (h : ∀ (h' : Heap) (tk c : Nat), L2.SetR w h' s.heap.objs.size (fun j => decide (j ∈ ks)) c → c ≤ ks.length →
      (∀ b o, b < s.heap.objs.size → s.heap.get? b = some o → h'.get? b = some o) → Q (.ref s.heap.objs.size) { s with heap := h', toks := tk }) :
    wpAny (model prog w) A (call (.type "set") [.ref l]) Q E s := by
  obtain ⟨c, tl, hmro⟩ := PySem.F.called_set.mro
  have hmade := PySem.F.called_set.made
  have hsub := PySem.F.called_set.sub
  refine wpAny_call (codeAny_of_tree ?_)
  show wpAny _ _ (callAny (.type "set") _) _ _ _
  refine wpAny_pure ⟨Code.quiet_builtin _ (by decide +kernel), codeAny_builtin PySem.F.entry_type_call ?_⟩
  rw [Around.under_plain (weight_type_call_type "set" [.ref l] []) rfl]
  have g1 := PySem.F.called_set.notType
  have g2 := PySem.F.called_set.canCreate
  have g3 := PySem.F.typeCall_set_1 (.ref l)
  repeat (any_goals (first | assumption | wp_step))
  refine codeAny_mono (L2.code_set_led1 (w := w) (.ref l) (E := E) (Q₁ := fun ob sA => ob = .ref s.heap.objs.size ∧ sA = { s with heap := s.heap.push (set0 (!w.params.followText "set-order")) }) ⟨rfl, rfl⟩) fun r sA hr => ?_
  match r, hr with
  | .error e, hr => exact hr
  | .ok .next, hr => exact hr.elim
  | .ok .brk, hr => exact hr.elim
  | .ok .cont, hr => exact hr.elim
  | .ok (.ret ob), hr =>
    obtain ⟨rfl, rfl⟩ := hr
    have hS : (s.heap.push (set0 (!w.params.followText "set-order"))).get? s.heap.objs.size = some (set0 (!w.params.followText "set-order")) := Heap.get?_push_size _ rfl
    have hT : Shared.TypeIs { s with heap := s.heap.push (set0 (!w.params.followText "set-order")) } (.ref s.heap.objs.size) "set" := ⟨_, hS, rfl⟩
    have g4 := PySem.F.called_set.init.lookup
    have g5 := PySem.F.called_set.init.bind (.ref s.heap.objs.size)
    repeat (any_goals (first | assumption | wp_step))
    refine codeAny_mono (codeAny_call_builtin (R := wants (fun r s₂ => r = .none ∧ ∃ h' tk c, s₂ = { s with heap := h', toks := tk } ∧ L2.SetR w h' s.heap.objs.size (fun j => decide (j ∈ ks)) c ∧ c ≤ ks.length ∧
        (∀ b o, b < s.heap.objs.size → s.heap.get? b = some o → h'.get? b = some o)) E) PySem.F.called_set.init.plain PySem.F.entry_set_init (check_set_init_1 hT ?_)) fun r₂ s₂ hr₂ => ?_
    · obtain ⟨ol, hol, hcl, nl, hdl⟩ := hl
      obtain ⟨oc, odi, oda, osl⟩ := ol
      simp only at hcl hdl
      subst hcl hdl
      have hol' : (s.heap.push (set0 (!w.params.followText "set-order"))).get? l = some { cls := .type "list", dict := odi, data := .seq items nl, slots := osl } := Heap.get?_push_of_some _ hol
      have g6 := PySem.F.sub_list_set
      have g7 := PySem.F.sub_list_frozenset
      have g8 : (Value.type "list" == Value.type "dict") = false := by decide
      have hl1 : (s.heap.push (set0 (!w.params.followText "set-order"))).IsList l items := ⟨_, hol', rfl, nl, rfl⟩
      unfold Builtin.«set.__init__» noKeywords Builtin.Frozenset.updateFrom
      generalize hPI : pyIter = PI
      wp_walk
      subst hPI
      refine wpAny_pyIter_list hl1 ?_
      refine wpAny_bind (wpAny_runValue ?_)
      have lS : l < s.heap.objs.size := Heap.lt_size hol
      have hh3 : A.in1.in1.in1.handled = none := by simp [hh]
      have nI : l ≠ (s.heap.push (set0 (!w.params.followText "set-order"))).objs.size := by
        rw [Heap.size_push]
        exact Nat.ne_of_lt (Nat.lt_succ_of_lt lS)
      have nS : s.heap.objs.size ∉ [(s.heap.push (set0 (!w.params.followText "set-order"))).objs.size, l] := by
        rw [Heap.size_push]
        simp only [List.mem_cons, List.mem_singleton, List.not_mem_nil, or_false, not_or]
        exact ⟨Nat.ne_of_lt (Nat.lt_succ_self _), Nat.ne_of_gt lS⟩
      refine L2.set_update_ints ((Walks.list hh3 _ l nI items).toS) s.heap.objs.size nS ks hlen room hv (items.size - 0) 0 _ (by omega) (Nat.zero_le _) ⟨⟨_, Heap.get?_push_size _ rfl, rfl, rfl⟩, (hl1.push _)⟩ ?start0 ?done0
      case start0 =>
        have there : ((s.heap.push (set0 (!w.params.followText "set-order"))).push { cls := .type "list_iterator", data := .fields #[.ref l, .int 0 0] }).get? s.heap.objs.size = some (set0 (!w.params.followText "set-order")) := Heap.get?_push_of_some _ hS
        exact ⟨0, Nat.le_refl 0, L2.setR_new_at there⟩
      case done0 =>
        intro s' c' mv hc' hS'
        obtain ⟨h', g', d', tk', os'⟩ := s'
        have eg : g' = s.gens := mv.gens
        have ed : d' = s.drawn := mv.drawn
        have eo : os' = s.os := mv.os
        subst eg ed eo
        refine wpAny_pure ?_
        show wpAny _ _ (ret Value.none) _ _ _
        rw [hlen] at hc'
        refine wpAny_pure ⟨rfl, h', tk', c', rfl, hS', hc', fun b o hb e => ?_⟩
        have n1 : b ≠ s.heap.objs.size := Nat.ne_of_lt hb
        have n2 : b ≠ (s.heap.push (set0 (!w.params.followText "set-order"))).objs.size := by
          rw [Heap.size_push]
          exact Nat.ne_of_lt (Nat.lt_succ_of_lt hb)
        exact mv.heap b o (by simp only [List.mem_cons, List.mem_singleton, List.not_mem_nil, or_false, not_or]; exact ⟨n1, n2⟩) (Heap.get?_push_of_some _ (Heap.get?_push_of_some _ e))
    · match r₂, hr₂ with
      | .error e, hr₂ => exact hr₂
      | .ok .next, hr₂ => exact hr₂.elim
      | .ok .brk, hr₂ => exact hr₂.elim
      | .ok .cont, hr₂ => exact hr₂.elim
      | .ok (.ret r), hr₂ =>
        obtain ⟨rfl, h', tk, c', rfl, hS', hc', hk'⟩ := hr₂
        repeat (any_goals (first | assumption | wp_step))
        exact h _ _ _ hS' hc' hk'
end
end PySem
namespace Toy
open PySem PySem.Spec PyProof.Rows L2
/-! ### set(..) of a list of whole numbers -/
def rSetLI (w : World) : List V → Hp → VK → Prop := fun xs H Q => ∃ (l : Addr) (ns : List Int), xs = [.ref l] ∧ H l = some (.lst (ns.map V.int)) ∧ ns.length ≤ 1000 ∧ ∀ p c, c ≤ ns.length → H p = none → Q (.ref p) (upd H p (SetO w p (fun j => decide (j ∈ ns)) c))
theorem call_setLI {X : Cx} (hc : X.calm = true) : CallR X (.type "set") (rSetLI X.w) := by
  intro pins s σ H xs us Q I r h
  obtain ⟨l, ns, rfl, hl, lz, q⟩ := h
  rw [Vals.ref1 r]
  obtain ⟨z, its, n, r2, hl2, e⟩ := I.lstM hl
  have ia := ints_of_vals r2
  have il : its.length = ns.length := by
    have q := r2.length
    rw [List.length_map] at q
    exact q.symm
  refine PySem.toy_setI (ks := ns) (I.ok.hd hc) ⟨_, e, rfl, n, rfl⟩ (by rw [List.size_toArray, il]) (Nat.lt_of_le_of_lt (Nat.succ_le_succ lz) (by decide)) (fun i v hv => ?_) fun h' tk c R hc' hk => ?_
  · rw [List.getElem?_toArray] at hv
    obtain ⟨t, et⟩ := PyProof.Rows.IntsAre.int_at ia i v hv
    have hi : i < ns.length := by
      rw [← il]
      exact (List.getElem?_eq_some_iff.mp hv).1
    refine ⟨_, t, List.getElem?_eq_getElem hi, ?_⟩
    rw [et, List.getD_eq_getElem?_getD, List.getElem?_eq_getElem hi] <;> rfl
  · have fr : H s.heap.objs.size = none := I.hok.fresh (Nat.le_refl _)
    exact ⟨.ref _, _, I.laid (t' := tk) (fun b o e => hk b o (Heap.lt_size e) e) (Nat.le_refl _) (setO_new R), rfl, q _ c hc' fr⟩
end Toy
set_option Elab.async false
set_option linter.all false
set_option maxRecDepth 100000
set_option maxHeartbeats 4000000
namespace Toy
open PySem
theorem nodup_leN {α : Type} [DecidableEq α] : ∀ {xs used : List α}, xs.Nodup → (∀ x ∈ xs, x ∈ used) → xs.length ≤ used.length
  | [], _, _, _ => Nat.zero_le _
  | x :: xs, used, nd, h => by
    obtain ⟨n1, n2⟩ := List.nodup_cons.mp nd
    have hx := h x List.mem_cons_self
    have ih := nodup_leN (used := used.erase x) n2 fun y hy => (List.mem_erase_of_ne (fun e : y = x => n1 (by rw [← e]; exact hy))).mpr (h y (List.mem_cons_of_mem _ hy))
    have l := List.length_erase_of_mem hx
    have := List.length_pos_of_mem hx
    rw [List.length_cons]
    omega
/-! ### what hangs together -/
abbrev Edge := Nat × Nat
def mstep (m : Nat → Nat) (e : Edge) : Nat → Nat := fun i => if m i = m e.2 then m e.1 else m i
def marks (es : List Edge) : Nat → Nat := es.foldl mstep id
theorem marks_snoc (es : List Edge) (e : Edge) : marks (es ++ [e]) = mstep (marks es) e := by
  unfold marks
  rw [List.foldl_append]
  rfl
def Sat (es : List Edge) (S : Nat → Prop) : Prop := ∀ e ∈ es, (S e.1 ↔ S e.2)
theorem marks_sat {S : Nat → Prop} (es : List Edge) : Sat es S → ∀ i j, marks es i = marks es j → (S i ↔ S j) := by
  refine rev_ind (P := fun es => Sat es S → ∀ i j, marks es i = marks es j → (S i ↔ S j)) ?_ ?_ es
  · intro _ i j h
    have e : i = j := h
    rw [e]
  · intro es e ih sat i j h
    have ih := ih fun x hx => sat x (List.mem_append_left _ hx)
    have se := sat e (List.mem_append_right _ List.mem_cons_self)
    rw [marks_snoc] at h
    unfold mstep at h
    by_cases c1 : marks es i = marks es e.2
    · rw [if_pos c1] at h
      have s1 := ih i e.2 c1
      by_cases c2 : marks es j = marks es e.2
      · exact s1.trans (ih j e.2 c2).symm
      · rw [if_neg c2] at h
        exact (s1.trans se.symm).trans (ih e.1 j h)
    · rw [if_neg c1] at h
      by_cases c2 : marks es j = marks es e.2
      · rw [if_pos c2] at h
        exact ((ih i e.1 h).trans se).trans (ih j e.2 c2).symm
      · rw [if_neg c2] at h
        exact ih i j h
theorem marks_edge (es : List Edge) : ∀ e ∈ es, marks es e.1 = marks es e.2 := by
  refine rev_ind (P := fun es => ∀ e ∈ es, marks es e.1 = marks es e.2) (fun _ h => nomatch h) ?_ es
  intro es e ih x hx
  rw [marks_snoc]
  unfold mstep
  rcases List.mem_append.mp hx with h | h
  · rw [ih x h]
  · rw [List.mem_singleton.mp h, if_pos (rfl : marks es e.2 = marks es e.2)]
    by_cases c : marks es e.1 = marks es e.2
    · rw [if_pos c]
    · rw [if_neg c]
theorem marks_sub {es es' : List Edge} (h : ∀ e ∈ es, e ∈ es') {i j : Nat} (q : marks es i = marks es j) : marks es' i = marks es' j :=
  ((marks_sat (S := fun k => marks es' i = marks es' k) es (fun e he => by show (marks es' i = marks es' e.1) ↔ (marks es' i = marks es' e.2); rw [marks_edge es' e (h e he)]) i j q).mp rfl)
def gstep : List (Nat × List Nat) → Nat → Nat → List (Nat × List Nat)
  | [], k, p => [(k, [p])]
  | (k', g) :: G, k, p => if k' = k then (k', g ++ [p]) :: G else (k', g) :: gstep G k p
def gfold (m : Nat → Nat) (L : List Nat) : List (Nat × List Nat) := L.foldl (fun G p => gstep G (m p) p) []
theorem gfold_snoc (m : Nat → Nat) (L : List Nat) (p : Nat) : gfold m (L ++ [p]) = gstep (gfold m L) (m p) p := by
  unfold gfold
  rw [List.foldl_append]
  rfl
theorem gfold_head (m : Nat → Nat) (k : Nat) : ∀ (L : List Nat) (g : List Nat) (G : List (Nat × List Nat)), L.foldl (fun G p => gstep G (m p) p) ((k, g) :: G) = (k, g ++ L.filter (fun q => decide (m q = k))) :: (L.filter fun q => decide (m q ≠ k)).foldl (fun G p => gstep G (m p) p) G
  | [], g, G => by
    show (k, g) :: G = (k, g ++ []) :: G
    rw [List.append_nil]
  | q :: L, g, G => by
    rw [List.foldl_cons]
    by_cases c : m q = k
    · have e : gstep ((k, g) :: G) (m q) q = (k, g ++ [q]) :: G := by
        show (if k = m q then (k, g ++ [q]) :: G else (k, g) :: gstep G (m q) q) = _
        rw [if_pos c.symm]
      rw [e, gfold_head m k L, List.filter_cons_of_pos (by simpa using c), List.filter_cons_of_neg (by simpa using c), List.append_assoc]
      rfl
    · have e : gstep ((k, g) :: G) (m q) q = (k, g) :: gstep G (m q) q := by
        show (if k = m q then (k, g ++ [q]) :: G else (k, g) :: gstep G (m q) q) = _
        rw [if_neg (fun h => c h.symm)]
      rw [e, gfold_head m k L, List.filter_cons_of_neg (by simpa using c), List.filter_cons_of_pos (by simpa using c)]
      rfl
def rows (m : Nat → Nat) (L : List Nat) : List (List Nat) := (gfold m L).map (·.2)
theorem rows_nil (m : Nat → Nat) : rows m [] = [] := rfl
theorem rows_cons (m : Nat → Nat) (p : Nat) (L : List Nat) : rows m (p :: L) = (p :: L.filter (fun q => decide (m q = m p))) :: rows m (L.filter fun q => decide (m q ≠ m p)) := by
  unfold rows gfold
  rw [List.foldl_cons]
  show (L.foldl (fun G p => gstep G (m p) p) ((m p, [p]) :: [])).map (·.2) = _
  rw [gfold_head]
  rfl
theorem rows_ker {m m' : Nat → Nat} : ∀ (n : Nat) (L : List Nat), L.length ≤ n → (∀ i ∈ L, ∀ j ∈ L, (m i = m j ↔ m' i = m' j)) → rows m L = rows m' L
  | _, [], _, _ => rfl
  | n + 1, p :: L, hl, h => by
    have f1 : L.filter (fun q => decide (m q = m p)) = L.filter (fun q => decide (m' q = m' p)) := List.filter_congr fun q hq => decide_eq_decide.mpr (h q (List.mem_cons_of_mem _ hq) p List.mem_cons_self)
    have f2 : L.filter (fun q => decide (m q ≠ m p)) = L.filter (fun q => decide (m' q ≠ m' p)) := List.filter_congr fun q hq => decide_eq_decide.mpr (not_congr (h q (List.mem_cons_of_mem _ hq) p List.mem_cons_self))
    rw [rows_cons, rows_cons, f1, f2, rows_ker n (L.filter fun q => decide (m' q ≠ m' p)) (Nat.le_trans (List.length_filter_le _ _) (Nat.le_of_succ_le_succ hl)) fun i hi j hj => h i (List.mem_cons_of_mem _ (List.mem_filter.mp hi).1) j (List.mem_cons_of_mem _ (List.mem_filter.mp hj).1)]
def comps (n : Nat) (es : List Edge) : List (List Nat) := rows (marks es) (List.range n)
theorem comps_mem {es es' : List Edge} (n : Nat) (h : ∀ e, e ∈ es ↔ e ∈ es') : comps n es = comps n es' :=
  rows_ker n _ (by rw [List.length_range]; exact Nat.le_refl _) fun i _ j _ => ⟨marks_sub fun e he => (h e).mp he, marks_sub fun e he => (h e).mpr he⟩
theorem rows_len (m : Nat → Nat) : ∀ (n : Nat) (L : List Nat), L.length ≤ n → (rows m L).length ≤ L.length ∧ ∀ r ∈ rows m L, r.length ≤ L.length
  | _, [], _ => ⟨Nat.le_refl _, fun _ h => nomatch h⟩
  | n + 1, p :: L, hl => by
    have f := List.length_filter_le (fun q => decide (m q ≠ m p)) L
    obtain ⟨a, b⟩ := rows_len m n (L.filter fun q => decide (m q ≠ m p)) (Nat.le_trans f (Nat.le_of_succ_le_succ hl))
    rw [rows_cons]
    refine ⟨by rw [List.length_cons, List.length_cons]; omega, fun r hr => ?_⟩
    rcases List.mem_cons.mp hr with e | e
    · rw [e, List.length_cons, List.length_cons]
      have := List.length_filter_le (fun q => decide (m q = m p)) L
      omega
    · have := b r e
      rw [List.length_cons]
      omega
end Toy
set_option Elab.async false
set_option linter.all false
set_option maxRecDepth 100000
set_option maxHeartbeats 4000000
namespace Toy
open PySem PySem.Spec PyProof.Rows L2
/-! ### a part of a drawing is a drawing -/
theorem inc_uniN : ∀ {xs ys : List Nat}, xs.Pairwise (· < ·) → ys.Pairwise (· < ·) → (∀ k, k ∈ xs ↔ k ∈ ys) → xs = ys
  | [], [], _, _, _ => rfl
  | [], y :: ys, _, _, h => nomatch (h y).mpr List.mem_cons_self
  | x :: xs, [], _, _, h => nomatch (h x).mp List.mem_cons_self
  | x :: xs, y :: ys, hx, hy, h => by
    obtain ⟨x1, x2⟩ := List.pairwise_cons.mp hx
    obtain ⟨y1, y2⟩ := List.pairwise_cons.mp hy
    have e : x = y := by
      rcases List.mem_cons.mp ((h x).mp List.mem_cons_self) with z | z
      · exact z
      · rcases List.mem_cons.mp ((h y).mpr List.mem_cons_self) with w | w
        · exact w.symm
        · have := y1 x z
          have := x1 y w
          omega
    subst e
    rw [inc_uniN x2 y2 fun k => ⟨fun hk => ?_, fun hk => ?_⟩]
    · rcases List.mem_cons.mp ((h k).mp (List.mem_cons_of_mem _ hk)) with z | z
      · have := x1 k hk
        omega
      · exact z
    · rcases List.mem_cons.mp ((h k).mpr (List.mem_cons_of_mem _ hk)) with z | z
      · have := y1 k hk
        omega
      · exact z
theorem inc_nodup {xs : List Nat} (h : xs.Pairwise (· < ·)) : xs.Nodup := h.imp fun {a b} (q : a < b) => Nat.ne_of_lt q
theorem range_sub {n : Nat} {r : List Nat} (h : r.Pairwise (· < ·)) (l : ∀ p ∈ r, p < n) : (List.range n).filter (fun p => decide (p ∈ r)) = r :=
  inc_uniN (List.Pairwise.filter _ List.pairwise_lt_range) h fun k => ⟨fun q => of_decide_eq_true (List.mem_filter.mp q).2, fun q => List.mem_filter.mpr ⟨List.mem_range.mpr (l k q), decide_eq_true q⟩⟩
def legAt (lg : Rows2) (i : Nat) : Str × Str := (lg[i]?).getD ("", "")
theorem legAt_of {lg : Rows2} {i : Nat} (h : i < lg.length) : lg[i]? = some (legAt lg i) := by
  unfold legAt
  rw [List.getElem?_eq_getElem h]
  rfl
theorem legE_flat : ∀ (lg : Rows2) (i : Nat), legE i lg = (List.range lg.length).map fun j => (i + j, (legAt lg j).2)
  | [], i => rfl
  | g :: lg, i => by
    show (i, g.2) :: legE (i + 1) lg = _
    rw [legE_flat lg (i + 1), List.length_cons, List.range_succ_eq_map, List.map_cons, List.map_map]
    refine List.cons_eq_cons.mpr ⟨rfl, List.map_congr_left fun j _ => ?_⟩
    show (i + 1 + j, (legAt lg j).2) = (i + (j + 1), (legAt (g :: lg) (j + 1)).2)
    rw [show i + 1 + j = i + (j + 1) by omega]
    rfl
/-- the ends of a place -/
def plEnds (ks : List KRow) (cs : List Str) (lg : Rows2) (p : Nat) : List End := if p < cs.length then (kEnds ks (cornAt cs p)).map fun s => (p, s) else [(p, (legAt lg (p - cs.length)).2)]
theorem plEnds_at {ks : List KRow} {cs : List Str} {lg : Rows2} {p : Nat} {e : End} (h : e ∈ plEnds ks cs lg p) : e.1 = p := by
  unfold plEnds at h
  by_cases c : p < cs.length
  · rw [if_pos c] at h
    obtain ⟨s, _, rfl⟩ := List.mem_map.mp h
    rfl
  · rw [if_neg c] at h
    rw [List.mem_singleton.mp h]
theorem all_flat (ks : List KRow) (cs : List Str) (lg : Rows2) : allE ks cs lg = (List.range (cs.length + lg.length)).flatMap (plEnds ks cs lg) := by
  unfold allE
  rw [cornE_flat, legE_flat, List.range_add, List.flatMap_append]
  congr 1
  · refine flat_congr fun j hj => ?_
    unfold plEnds
    rw [if_pos (List.mem_range.mp hj)]
    refine List.map_congr_left fun s _ => ?_
    rw [Nat.zero_add]
  · rw [List.flatMap_map, List.map_eq_flatMap]
    refine flat_congr fun j _ => ?_
    unfold plEnds
    rw [if_neg (by omega), show cs.length + j - cs.length = j by omega]
theorem ends_filter (ks : List KRow) (cs : List Str) (lg : Rows2) (r : List Nat) : ∀ L : List Nat, (L.flatMap (plEnds ks cs lg)).filter (fun e => decide (e.1 ∈ r)) = (L.filter fun p => decide (p ∈ r)).flatMap (plEnds ks cs lg)
  | [] => rfl
  | p :: L => by
    rw [List.flatMap_cons, List.filter_append, ends_filter ks cs lg r L]
    by_cases c : p ∈ r
    · rw [List.filter_cons_of_pos (by simpa using c), List.flatMap_cons, List.filter_eq_self.mpr fun e he => by rw [plEnds_at he]; exact decide_eq_true c]
    · rw [List.filter_cons_of_neg (by simpa using c), List.filter_eq_nil_iff.mpr fun e he => by rw [plEnds_at he]; simpa using c]
      rfl
theorem idx_flat {α β : Type} : ∀ (L : List α) (f : α → List β) (g : Nat → List β), (∀ k p, L[k]? = some p → f p = g k) → L.flatMap f = (List.range L.length).flatMap g
  | [], _, _, _ => rfl
  | p :: L, f, g, h => by
    rw [List.flatMap_cons, List.length_cons, List.range_succ_eq_map, List.flatMap_cons, List.flatMap_map, h 0 p rfl, idx_flat L f (fun k => g (k + 1)) fun k q hq => h (k + 1) q hq]
def rC (m : Nat) (r : List Nat) : List Nat := r.filter fun p => decide (p < m)
def rL (m : Nat) (r : List Nat) : List Nat := r.filter fun p => decide (m ≤ p)
theorem r_split (m : Nat) {r : List Nat} (h : r.Pairwise (· < ·)) : r = rC m r ++ rL m r := by
  refine inc_uniN h (List.pairwise_append.mpr ⟨List.Pairwise.filter _ h, List.Pairwise.filter _ h, fun a ha b hb => ?_⟩) fun k => ?_
  · have h1 := of_decide_eq_true (List.mem_filter.mp ha).2
    have h2 := of_decide_eq_true (List.mem_filter.mp hb).2
    omega
  · rw [List.mem_append]
    constructor
    · intro hk
      by_cases c : k < m
      · exact .inl (List.mem_filter.mpr ⟨hk, decide_eq_true c⟩)
      · exact .inr (List.mem_filter.mpr ⟨hk, decide_eq_true (by omega)⟩)
    · exact fun hk => hk.elim (fun q => (List.mem_filter.mp q).1) fun q => (List.mem_filter.mp q).1
def pC (cs : List Str) (r : List Nat) : List Str := (rC cs.length r).map (cornAt cs)
def pL (cs : List Str) (lg : Rows2) (r : List Nat) : Rows2 := (rL cs.length r).map fun p => legAt lg (p - cs.length)
def pN (n : Nat) (r : List Nat) : List Nat := (List.range n).map fun i => r.idxOf i
def pS (r : List Nat) (js : List JRow) : List JRow := js.filter fun j => decide (j.1.1 ∈ r)
def pJ (n : Nat) (r : List Nat) (js : List JRow) : List JRow := movedJ (pN n r) (pS r js)
theorem pN_at {n i : Nat} (r : List Nat) (h : i < n) : plN (pN n r) i = r.idxOf i := by
  unfold plN pN
  rw [List.getElem?_map, List.getElem?_range h]
  rfl
theorem pC_len (cs : List Str) (r : List Nat) : (pC cs r).length = (rC cs.length r).length := List.length_map _
theorem pL_len (cs : List Str) (lg : Rows2) (r : List Nat) : (pL cs lg r).length = (rL cs.length r).length := List.length_map _
theorem part_ends {ks : List KRow} {cs : List Str} {lg : Rows2} {r : List Nat} (h : r.Pairwise (· < ·)) (l : ∀ p ∈ r, p < cs.length + lg.length) {k p : Nat} (hk : r[k]? = some p) :
    (plEnds ks cs lg p).map (plE (pN (cs.length + lg.length) r)) = plEnds ks (pC cs r) (pL cs lg r) k := by
  have pm := List.mem_of_getElem? hk
  have kl := (List.getElem?_eq_some_iff.mp hk).1
  have nd := inc_nodup h
  have ei : r.idxOf p = k := by
    have q := (List.getElem?_eq_some_iff.mp hk).2
    rw [← q, nd.idxOf_getElem k kl]
  have ep : plN (pN (cs.length + lg.length) r) p = k := by rw [pN_at r (l p pm), ei]
  have sp := r_split cs.length h
  have lr := congrArg List.length sp
  rw [List.length_append] at lr
  unfold plEnds
  by_cases c : k < (rC cs.length r).length
  · have hk2 : (rC cs.length r)[k]? = some p := by
      rw [sp, List.getElem?_append_left c] at hk
      exact hk
    have pc : p < cs.length := of_decide_eq_true (List.mem_filter.mp (show p ∈ r.filter _ from List.mem_of_getElem? hk2)).2
    have ec : cornAt (pC cs r) k = cornAt cs p := by
      show (((rC cs.length r).map (cornAt cs))[k]?).getD "" = _
      rw [List.getElem?_map, hk2]
      rfl
    rw [if_pos pc, if_pos (by rw [pC_len]; exact c), ec, List.map_map]
    refine List.map_congr_left fun s _ => ?_
    show (plN _ p, s) = (k, s)
    rw [ep]
  · have hk2 : (rL cs.length r)[k - (rC cs.length r).length]? = some p := by
      rw [sp, List.getElem?_append_right (by omega)] at hk
      exact hk
    have pc : cs.length ≤ p := of_decide_eq_true (List.mem_filter.mp (show p ∈ r.filter _ from List.mem_of_getElem? hk2)).2
    have ec : legAt (pL cs lg r) (k - (rC cs.length r).length) = legAt lg (p - cs.length) := by
      show (((rL cs.length r).map fun p => legAt lg (p - cs.length))[k - (rC cs.length r).length]?).getD _ = _
      rw [List.getElem?_map, hk2]
      rfl
    rw [if_neg (by omega), if_neg (by rw [pC_len]; exact c), pC_len, ec]
    show [(plN _ p, _)] = [(k, _)]
    rw [ep]
theorem part_all {ks : List KRow} {cs : List Str} {lg : Rows2} {r : List Nat} (h : r.Pairwise (· < ·)) (l : ∀ p ∈ r, p < cs.length + lg.length) :
    ((allE ks cs lg).filter fun e => decide (e.1 ∈ r)).map (plE (pN (cs.length + lg.length) r)) = allE ks (pC cs r) (pL cs lg r) := by
  rw [all_flat, ends_filter, range_sub h l, List.map_flatMap, all_flat, pC_len, pL_len]
  have lr := congrArg List.length (r_split cs.length h)
  rw [List.length_append] at lr
  rw [← lr]
  exact idx_flat r _ _ fun k p hk => part_ends h l hk
theorem part_js {js : List JRow} {r : List Nat} (cl : ∀ j ∈ js, (j.1.1 ∈ r ↔ j.2.1 ∈ r)) : (pS r js).map (·.1) ++ (pS r js).map (·.2) = (js.map (·.1) ++ js.map (·.2)).filter fun e => decide (e.1 ∈ r) := by
  rw [List.filter_append, List.filter_map, List.filter_map]
  congr 1
  unfold pS
  refine congrArg (List.map _) (List.filter_congr fun j hj => ?_)
  exact decide_eq_decide.mpr (cl j hj)
theorem part_joins {rows : Rows2} {keys : List Str} {ks : List KRow} {cs : List Str} {lg : Rows2} {js : List JRow} {r : List Nat} (h : r.Pairwise (· < ·)) (l : ∀ p ∈ r, p < cs.length + lg.length) (cl : ∀ j ∈ js, (j.1.1 ∈ r ↔ j.2.1 ∈ r))
    (pm : (js.map (·.1) ++ js.map (·.2)).Perm (allE ks cs lg)) (gj : ∀ j ∈ js, GoodJ rows j) (mu : Mut rows) (gk : GoodK keys ks) (hc : ∀ x ∈ pC cs r, x ∈ ks.map (·.1)) :
    (∀ j ∈ pJ (cs.length + lg.length) r js, GoodJ rows j) ∧ sortD ((pJ (cs.length + lg.length) r js).map joinT) = (pJ (cs.length + lg.length) r js).map joinT ∧
      sortD (((pJ (cs.length + lg.length) r js).map (·.1) ++ (pJ (cs.length + lg.length) r js).map (·.2)).map endT) = (allE ks (pC cs r) (pL cs lg r)).map endT := by
  refine joins_make2 (js := (pS r js).map (jmv (pN (cs.length + lg.length) r))) ?_ (all_sorted gk hc) fun j hj => ?_
  · refine (jmv_split _ _).trans ?_
    rw [part_js cl, ← part_all h l]
    exact (pm.filter _).map _
  · obtain ⟨i, hi, rfl⟩ := List.mem_map.mp hj
    exact jmv_good mu (gj i (List.mem_filter.mp hi).1)
theorem legsg_of {rows lg : Rows2} (h : legsD (rows.map (·.1)) (.list (lg.map rowT)) = true) : LegsG rows lg := by
  have q : (decide ((lg.map rowT).length ≤ 6) && ((lg.map rowT).all (legD (rows.map (·.1))) && (PyData.eqv (.list (lg.map rowT)) (.list (sortD (lg.map rowT))) && decide ((lg.map rowT).map name0).Nodup))) = true := h
  rw [Bool.and_eq_true, Bool.and_eq_true, Bool.and_eq_true, decide_eq_true_eq, decide_eq_true_eq, List.length_map] at q
  obtain ⟨q1, q2, q3, q4⟩ := q
  have ev : ∀ a b : Str × Str, PyData.eqv (rowT a) (rowT b) = decide (a = b) := fun a b => by
    show (PyData.eqv (.str a.1) (.str b.1) && (PyData.eqv (.str a.2) (.str b.2) && true)) = _
    rw [eqvS, eqvS, Bool.and_true, ← Bool.decide_and]
    exact decide_eq_decide.mpr ⟨fun h => Prod.ext h.1 h.2, fun h => by rw [h]; exact ⟨rfl, rfl⟩⟩
  have el : ∀ xs ys : Rows2, PyData.eqv (.list (xs.map rowT)) (.list (ys.map rowT)) = true → xs = ys := by
    intro xs
    induction xs with
    | nil =>
      intro ys h
      cases ys with
      | nil => rfl
      | cons y ys => cases h
    | cons x xs ih =>
      intro ys h
      cases ys with
      | nil => cases h
      | cons y ys =>
        have h2 : (PyData.eqv (rowT x) (rowT y) && PyData.eqv (.list (xs.map rowT)) (.list (ys.map rowT))) = true := h
        rw [Bool.and_eq_true, ev, decide_eq_true_eq] at h2
        rw [h2.1, ih ys h2.2]
  rw [sortD_R] at q3
  have es := el _ _ q3
  have all : ∀ g ∈ lg, nameS g.1 = true ∧ g.2 ∈ rows.map (·.1) := fun g hg => by
    have z : (nameS g.1 && (nameS g.2 && decide (g.2 ∈ rows.map (·.1)))) = true := List.all_eq_true.mp q2 (rowT g) (List.mem_map_of_mem hg)
    rw [Bool.and_eq_true, Bool.and_eq_true, decide_eq_true_eq] at z
    exact ⟨z.1, z.2.2⟩
  refine ⟨q1, ?_, fun g hg => (all g hg).1, fun g hg => (all g hg).2, by rw [es]; exact sortR_pw lg⟩
  have e2 : (lg.map rowT).map name0 = lg.map (·.1) := by
    rw [List.map_map]
    rfl
  rw [← e2]
  exact q4
theorem part_legs {rows : Rows2} {cs : List Str} {lg : Rows2} {r : List Nat} (G : LegsG rows lg) (h : r.Pairwise (· < ·)) (l : ∀ p ∈ r, p < cs.length + lg.length) : LegsG rows (pL cs lg r) := by
  have mem : ∀ p ∈ rL cs.length r, cs.length ≤ p ∧ p - cs.length < lg.length := fun p hp => by
    obtain ⟨a, b⟩ := List.mem_filter.mp hp
    have := of_decide_eq_true b
    have := l p a
    omega
  have lm : ∀ g ∈ pL cs lg r, g ∈ lg := fun g hg => by
    obtain ⟨p, hp, rfl⟩ := List.mem_map.mp hg
    exact List.mem_of_getElem? (legAt_of (mem p hp).2)
  have pw : (rL cs.length r).Pairwise (· < ·) := List.Pairwise.filter _ h
  have at_ : ∀ {i j : Nat}, i < j → j < lg.length → leR (legAt lg i) (legAt lg j) ∧ (legAt lg i).1 ≠ (legAt lg j).1 := fun {i j} ij jl => by
    have e1 := legAt_of (lg := lg) (i := i) (by omega)
    have e2 := legAt_of jl
    obtain ⟨_, e1⟩ := List.getElem?_eq_some_iff.mp e1
    obtain ⟨_, e2⟩ := List.getElem?_eq_some_iff.mp e2
    refine ⟨?_, ?_⟩
    · have := List.pairwise_iff_getElem.mp G.pw i j (by omega) jl ij
      rwa [e1, e2] at this
    · have := List.pairwise_iff_getElem.mp G.nd i j (by rw [List.length_map]; omega) (by rw [List.length_map]; exact jl) ij
      rw [List.getElem_map, List.getElem_map, e1, e2] at this
      exact this
  have pw2 : (rL cs.length r).Pairwise fun p q => leR (legAt lg (p - cs.length)) (legAt lg (q - cs.length)) ∧ (legAt lg (p - cs.length)).1 ≠ (legAt lg (q - cs.length)).1 := by
    refine List.Pairwise.imp_of_mem (fun {a b} ha hb q => ?_) pw
    have q : a < b := q
    exact at_ (by have := mem a ha; have := mem b hb; omega) (mem b hb).2
  refine ⟨?_, ?_, fun g hg => G.nm g (lm g hg), fun g hg => G.so g (lm g hg), ?_⟩
  · rw [pL_len]
    have q : (rL cs.length r).length ≤ (List.range' cs.length lg.length).length := nodup_leN (inc_nodup pw) fun p hp => by
      have := mem p hp
      exact List.mem_range'_1.mpr ⟨this.1, by omega⟩
    rw [List.length_range'] at q
    have := G.l6
    omega
  · unfold pL
    rw [List.map_map]
    exact List.pairwise_map.mpr (pw2.imp fun {a b} h => h.2)
  · exact List.pairwise_map.mpr (pw2.imp fun {a b} h => h.1)
theorem pC_mem {cs : List Str} {r : List Nat} : ∀ x ∈ pC cs r, x ∈ cs := fun x hx => by
  obtain ⟨p, hp, rfl⟩ := List.mem_map.mp hx
  have := of_decide_eq_true (List.mem_filter.mp (show p ∈ r.filter _ from hp)).2
  exact List.mem_of_getElem? (cornAt_of this)
theorem pC_le {cs : List Str} {r : List Nat} (h : r.Pairwise (· < ·)) : (pC cs r).length ≤ cs.length := by
  rw [pC_len]
  have q : (rC cs.length r).length ≤ (List.range cs.length).length := nodup_leN (inc_nodup (List.Pairwise.filter _ h)) fun p hp => List.mem_range.mpr (of_decide_eq_true (List.mem_filter.mp hp).2)
  rwa [List.length_range] at q
end Toy
set_option Elab.async false
set_option linter.all false
set_option maxRecDepth 100000
set_option maxHeartbeats 4000000
namespace Toy
open PySem PySem.Spec PyProof.Rows L2
/-! ### list(d.values()) -/
def tListVals (td : TE) : TE := fun σ H Q => td σ H fun x H1 => ∃ a kvs, x = V.ref a ∧ H1 a = some (.dK kvs) ∧ kvs.length ≤ 16777216 ∧ ∀ q, H1 q = none → Q (.ref q) (upd H1 q (.lst (kvs.map (·.2))))
section
variable {X : Cx} {o : Expr} {p pos apos mpos : Pos} {td : TE}
theorem pe_listVals (hc : X.calm = true) (hg : Gl X "list") (hm : X.mg "list" = none) (hd : PE X o td) (hbase : attributeBase o "values" X.env (eval o X.env) = eval o X.env := by rfl) (hline : (apos.endLine == mpos.line) = true := by rfl)
    (hse : starEach [Expr.Call (.Attribute o "values" apos) [] [] mpos] X.env = [(false, eval (Expr.Call (.Attribute o "values" apos) [] [] mpos) X.env)] := by rfl) :
    PE X (.Call (.Name "list" p) [.Call (.Attribute o "values" apos) [] [] mpos] [] pos) (tListVals td) := by
  refine ⟨fun pins s σ H Q I h => ?_⟩
  refine wpAny_Call_Name_kw (ld_blt I hg hm (u := .type "list") (by first | rfl | decide +kernel) ?_ (by first | decide +kernel | decide) (by first | decide +kernel | decide))
  rw [hse]
  refine PySem.callWith_type1 (wpAny_Call_method0_late hbase hline (thn (hd.run pins s σ H _ I h) fun v s1 ⟨x, H1, I1, r1, a, kvs, ex, ha, hz, q⟩ => ?_))
  subst ex
  obtain rfl : v = Value.ref a := r1
  obtain ⟨_, hsys, vs, rel, dof⟩ := dk_of I1.hok ha
  obtain ⟨ep, dat⟩ := dof.dictAt
  have dat' := dat
  obtain ⟨ob, es, ho, ex, hdat, hko, hpr, hnd⟩ := dat'
  refine ⟨"dict", "dict.values", F.plainAttrs_dict, F.slot_dict_values, F.type_dict_values, ⟨ob, ho, ex.1⟩, fun b e => ?_, Calls.callWith_builtin rfl (PySem.evalArgs_none ?_)⟩
  · cases e
    exact ⟨ob, ho, ex.2.1⟩
  refine call_meetsIn F.slot_dict_values ⟨ob, ho, ex.1⟩ F.entry_dict_values (F.args_dict_values_1 _) (meets_dict_values (mixKind X.prog X.w) a hsys) ⟨⟨vs, dof⟩, ?_⟩
  have k1 : ∀ b u, s1.heap.get? b = some u → (s1.heap.push { cls := .type "dict_values", data := .fields #[.ref a] }).get? b = some u := fun b u e => Heap.get?_push_of_some _ e
  have dat1 : (s1.heap.push { cls := .type "dict_values", data := .fields #[.ref a] }).DictAt (mixKind X.prog X.w) a vs ep := dat.keep k1
  have hl : kvs.length = vs.length := KV.length rel
  refine PySem.W.kdl_call (PySem.W.kdl_values (knd := mixKind X.prog X.w) (r := s1.heap.objs.size) (d := a) (kvs := vs) (ep := ep)) (I.ok.hd hc) ⟨⟨_, Heap.get?_push_size _ rfl, rfl, rfl⟩, dat1⟩ (by rw [sizeLine_eq]; omega) fun h' tk acc c' hk e hi => ?_
  have hsz : (s1.heap.push { cls := .type "dict_values", data := .fields #[.ref a] }).objs.size = s1.heap.objs.size + 1 := Heap.size_push _ _
  have fr : H1 (s1.heap.push { cls := .type "dict_values", data := .fields #[.ref a] }).objs.size = none := I1.hok.fresh (by rw [hsz]; exact Nat.le_succ _)
  refine ⟨.ref _, upd H1 _ (.lst (kvs.map (·.2))), I1.laid (t' := tk) (fun b u z => hk b u (k1 b u z)) (by rw [hsz]; exact Nat.le_succ _) ⟨by rw [List.length_map, sizeLine_eq]; exact hz, acc.toList, c', ?_, by rw [Array.toArray_toList]; exact e⟩, rfl, q _ fr⟩
  refine vals_of_idx _ _ (by rw [List.length_map, Array.length_toList, hi.1, hl]) fun j u hj => ?_
  rw [Array.getElem?_toList] at hj
  obtain ⟨k, hkv⟩ := hi.2 j u hj
  obtain ⟨x, e1, e2⟩ := KV.at' rel hkv
  exact ⟨x, by rw [List.getElem?_map, e1]; rfl, e2⟩
end
end Toy
set_option Elab.async false
set_option linter.all false
set_option maxRecDepth 100000
set_option maxHeartbeats 4000000
namespace Toy
open PySem PySem.Spec PyProof.Rows L2
def edges (js : List JRow) : List Edge := js.map fun j => (j.1.1, j.2.1)
theorem edges_snoc {js : List JRow} {i : Nat} {j : JRow} (h : js[i]? = some j) : edges (js.take (i + 1)) = edges (js.take i) ++ [(j.1.1, j.2.1)] := by
  unfold edges
  rw [take_snoc h, List.map_append]
  rfl
def iv (xs : List Nat) : List V := xs.map fun i => V.int (i : Nat)
def ml (m : Nat → Nat) (n : Nat) : List V := (List.range n).map fun i => V.int (m i : Nat)
theorem ml_len (m : Nat → Nat) (n : Nat) : (ml m n).length = n := by unfold ml; rw [List.length_map, List.length_range]
theorem ml_at (m : Nat → Nat) {n i : Nat} (h : i < n) : (ml m n)[i]? = some (V.int (m i : Nat)) := by
  unfold ml
  rw [List.getElem?_map, List.getElem?_range h]
  rfl
theorem rg_ml (n : Nat) : rgV 0 (n : Int) = ml id n := by
  unfold rgV ml
  rw [Int.sub_zero, Int.toNat_natCast]
  refine List.map_congr_left fun i _ => ?_
  rw [Int.zero_add]
  rfl
def RowsAt (H : Hp) (ps : List Addr) (rs : List (List Nat)) : Prop := Paired (fun p r => H p = some (.lst (iv r))) ps rs
theorem RowsAt.same {H H' : Hp} (s : Same H H') {ps : List Addr} {rs : List (List Nat)} (h : RowsAt H ps rs) : RowsAt H' ps rs := L2.Paired.mapP h fun _ _ q => s _ _ q
/-- the groups as they stand in the dict -/
def GP (Ha H : Hp) : List (Key × V) → List (Nat × List Nat) → Prop := Paired fun kv g => kv.1 = Sum.inl ((g.1 : Nat) : Int) ∧ ∃ a, kv.2 = .ref a ∧ Ha a = none ∧ H a = some (.lst (iv g.2))
theorem GP.keep {Ha H H' : Hp} {kvs : List (Key × V)} {G : List (Nat × List Nat)} (h : GP Ha H kvs G) (s : ∀ a, .ref a ∈ kvs.map (·.2) → H' a = H a) : GP Ha H' kvs G := by
  unfold GP at h ⊢
  induction h with
  | nil => exact .nil
  | cons r t ih =>
    obtain ⟨e1, a, e2, n, e3⟩ := r
    refine .cons ⟨e1, a, e2, n, by rw [s a (by rw [List.map_cons, e2]; exact List.mem_cons_self)]; exact e3⟩ (ih fun b hb => s b (by rw [List.map_cons]; exact List.mem_cons_of_mem _ hb))
theorem GP.len {Ha H : Hp} {kvs : List (Key × V)} {G : List (Nat × List Nat)} (h : GP Ha H kvs G) : kvs.length = G.length := (show Paired _ kvs G from h).length
theorem GP.found {Ha H : Hp} {k : Nat} {v : V} : ∀ {kvs : List (Key × V)} {G : List (Nat × List Nat)}, GP Ha H kvs G → (kvs.map (·.2)).Nodup → valV kvs (Sum.inl ((k : Nat) : Int)) = some v →
    ∃ a g, v = .ref a ∧ .ref a ∈ kvs.map (·.2) ∧ Ha a = none ∧ H a = some (.lst (iv g)) ∧ g ∈ G.map (·.2) ∧ ∀ p H', H' a = some (.lst (iv (g ++ [p]))) → (∀ b, b ≠ a → H' b = H b) → GP Ha H' kvs (gstep G k p)
  | _, _, .nil, _, h => by
    rw [valV_nil] at h
    cases h
  | kv :: kvs, (k', g) :: G, .cons r t, nd, h => by
    obtain ⟨e1, a, e2, n, e3⟩ := id r
    rw [List.map_cons] at nd
    obtain ⟨n1, n2⟩ := List.nodup_cons.mp nd
    by_cases c : k' = k
    · have ek : kv.1 = Sum.inl ((k : Nat) : Int) := by rw [e1, c]
      rw [valV_pos ek] at h
      injection h with h
      refine ⟨a, g, by rw [← h, e2], by rw [List.map_cons, e2]; exact List.mem_cons_self, n, e3, List.mem_cons_self, fun p H' q1 q2 => ?_⟩
      have eg : gstep ((k', g) :: G) k p = (k', g ++ [p]) :: G := if_pos c
      rw [eg]
      refine .cons ⟨e1, a, e2, n, q1⟩ (GP.keep (show GP Ha H kvs G from t) fun b hb => q2 b fun z => n1 ?_)
      rw [e2, ← z]
      exact hb
    · have ek : ¬ kv.1 = Sum.inl ((k : Nat) : Int) := fun z => c (by
        rw [e1] at z
        have := Sum.inl.inj z
        omega)
      rw [valV_neg ek] at h
      obtain ⟨b, g2, f1, f2, f3, f4, f5, f6⟩ := GP.found (show GP Ha H kvs G from t) n2 h
      refine ⟨b, g2, f1, by rw [List.map_cons]; exact List.mem_cons_of_mem _ f2, f3, f4, List.mem_cons_of_mem _ f5, fun p H' q1 q2 => ?_⟩
      have eg : gstep ((k', g) :: G) k p = (k', g) :: gstep G k p := if_neg c
      rw [eg]
      have nab : a ≠ b := fun z => n1 (by rw [e2, z]; exact f2)
      exact .cons ⟨e1, a, e2, n, by rw [q2 a nab]; exact e3⟩ (f6 p H' q1 q2)
theorem GP.fail {Ha H : Hp} {k p : Nat} : ∀ {kvs : List (Key × V)} {G : List (Nat × List Nat)}, GP Ha H kvs G → valV kvs (Sum.inl ((k : Nat) : Int)) = none → gstep G k p = G ++ [(k, [p])]
  | _, _, .nil, _ => rfl
  | kv :: kvs, (k', g) :: G, .cons r t, h => by
    obtain ⟨e1, a, e2, n, e3⟩ := id r
    by_cases c : k' = k
    · have ek : kv.1 = Sum.inl ((k : Nat) : Int) := by rw [e1, c]
      rw [valV_pos ek] at h
      cases h
    · have ek : ¬ kv.1 = Sum.inl ((k : Nat) : Int) := fun z => c (by
        rw [e1] at z
        have := Sum.inl.inj z
        omega)
      rw [valV_neg ek] at h
      have eg : gstep ((k', g) :: G) k p = (k', g) :: gstep G k p := if_neg c
      rw [eg, GP.fail (show GP Ha H kvs G from t) h]
      rfl
theorem GP.out {Ha H : Hp} : ∀ {kvs : List (Key × V)} {G : List (Nat × List Nat)}, GP Ha H kvs G → (kvs.map (·.2)).Nodup → ∃ ps : List Addr, kvs.map (·.2) = ps.map V.ref ∧ RowsAt H ps (G.map (·.2)) ∧ (∀ p ∈ ps, Ha p = none) ∧ ps.Nodup
  | _, _, .nil, _ => ⟨[], rfl, .nil, (fun _ h => nomatch h), List.nodup_nil⟩
  | kv :: kvs, (k', g) :: G, .cons r t, nd => by
    obtain ⟨e1, a, e2, n, e3⟩ := r
    rw [List.map_cons] at nd
    obtain ⟨n1, n2⟩ := List.nodup_cons.mp nd
    obtain ⟨ps, f1, f2, f3, f4⟩ := GP.out (show GP Ha H kvs G from t) n2
    refine ⟨a :: ps, by rw [List.map_cons, List.map_cons, f1, e2], .cons e3 f2, fun p hp => ?_, List.nodup_cons.mpr ⟨fun hm => n1 ?_, f4⟩⟩
    · rcases List.mem_cons.mp hp with z | z
      · rw [z]
        exact n
      · exact f3 p z
    · rw [f1, e2]
      exact List.mem_map_of_mem hm
theorem joins_at5 {H : Hp} {ws : List V} {js : List JRow} {i : Nat} {v : V} (h : JoinsAt H ws js) (e : ws[i]? = some v) : ∃ j t, js[i]? = some j ∧ v = .ref t ∧ TupAt H t (joinV j) := by
  obtain ⟨j, hj, t, e2, tq⟩ := paired_at (show Paired _ ws js from h) e
  exact ⟨j, t, hj, e2, tq⟩
def spHang : Sp := fun vs H Q _ => ∃ (n : Nat) (u : Addr) (ws : List V) (js : List JRow), vs = [.int (n : Nat), .ref u] ∧ H u = some (.lst ws) ∧ JoinsAt H ws js ∧ (∀ j ∈ js, j.1.1 < n ∧ j.2.1 < n) ∧ n ≤ 60 ∧ js.length ≤ 80 ∧
  ∀ (q : Addr) (ps : List Addr) (H' : Hp), Same H H' → H' q = some (.lst (ps.map V.ref)) → RowsAt H' ps (comps n (edges js)) → H q = none → (∀ p ∈ ps, H p = none) → (q :: ps).Nodup → Q (.ref q) H'
section
variable {P : Program} {w : World} {K : PySem.W.Frag} {mg : Str → Option Value} {base : Heap}
abbrev hgN : List Str := ["many", "joins", "marks", "join", "mark", "gone", "other", "groups", "place"]
theorem scHang : FnScope hgN ["many", "joins"] (defScope sHang) := ⟨rfl, rfl, rfl, by decide +kernel, rfl, by decide +kernel, by decide +kernel⟩
theorem ok_hang {f : Addr} {fd : FuncData} (F : Fun K "hanging" "hanging" sHang f fd) (M : Mods mg) (mR : mg "range" = none) (mEn : mg "enumerate" = none) :
    FnOk P w K mg base CX0 1 f fd ["many", "joins"] spHang := by
  refine F.ok scHang (fun vs H Q E h => ?_) (fun cdv A outer s H vs Q E hr h => ?_)
  · obtain ⟨n, u, ws, js, rfl, _⟩ := h
    rfl
  · obtain ⟨n, u, ws, js, rfl, hu, jv, ed, n60, l80, k⟩ := h
    refine ⟨_, (pss_cons (ps_set (i := 2) scHang.nd rfl (Or.inl rfl) (pe_listRg rfl (by rfl) M.lst_ (prg_1 (by rfl) mR (pv 0))))
      (pss_cons (ps_for PassesOwn.never rfl (pi_list (pv 1)) (pg_name (i := 3) scHang.nd rfl (Or.inl rfl)) (pss_cons (ps_asg (pe_tup (pa_cons (pe_ix ix_list (pv 2) (pe_ix ix_tup (pv 3) pe_int (fun _ _ => rfl)) (fun _ _ => rfl)) (pa_cons (pe_ix ix_list (pv 2) (pe_ix ix_tup (pv 3) pe_int (fun _ _ => rfl)) (fun _ _ => rfl)) pa_nil))) (pg_tup rfl (pgs_cons (pg_name (i := 4) scHang.nd rfl (Or.inr rfl)) (pgs_cons (pg_name (i := 5) scHang.nd rfl (Or.inr rfl)) pgs_nil))))
      (pss_one (ps_if (pt_cmpR op_ne (pv 4) (pv 5) (nomark _)) (pss_one (ps_setLc (i := 2) (own := [("other", 6)]) (g := gName 6) (tt := tYes) (te := (tIf (tTest (tOp rEq (tVar 6) (tVar 5))) (tVar 4) (tVar 6))) rfl scHang.nd rfl rfl (sw_true rfl rfl rfl (by decide +kernel)) (pi_list (pv 2)) (blkOk_by (N := hgN) (sc := defScope sHang) (by decide +kernel)) (fun _ _ _ _ _ => pg_name (i := 6) scHang.nd rfl (Or.inl rfl)) (fun _ _ _ _ _ => pts_nil) (fun _ _ _ _ _ => (by exact (pe_ifExp (pt_cmpR op_eq (pv 6) (pv 5) (nomark _)) (pv 4) (pv 6)))))) pss_nil))))
      (pss_cons (ps_set (i := 7) scHang.nd rfl (Or.inl rfl) pe_dnewK)
      (pss_cons (ps_for PassesOwn.never rfl (pi_enum (by rfl) mEn (pa_cons (pv 2) pa_nil)) (pg_tup rfl (pgs_cons (pg_name (i := 8) scHang.nd rfl (Or.inl rfl)) (pgs_cons (pg_name (i := 4) scHang.nd rfl (Or.inr rfl)) pgs_nil))) (pss_one (ps_expr (pe_bm PySem.F.plainAttrs_list PySem.F.slot_list_append PySem.F.type_list_append mt_append (pe_dsetd (pv 7) (pv 4) (pe_lst pa_nil) ⟨rfl, rfl, rfl, rfl⟩) (pa_cons (pv 8) pa_nil)))))
      (pss_one (ps_ret (pe_listVals rfl (by rfl) M.lst_ (pv 7)))))))), ?_⟩
    have lw := jv.len
    refine ⟨_, rfl, _, rfl, RgOk.of_le (by omega) (by omega) (by omega) (by omega), fun P1 nP1 => ?_⟩
    rw [rg_ml]
    have x1 := same_new (o := .lst (ml id n)) nP1
    have hP1 : upd H P1 (.lst (ml id n)) P1 = some (.lst (ml id n)) := upd_same
    generalize upd H P1 (.lst (ml id n)) = H1 at x1 hP1 ⊢
    refine ⟨_, rfl, u, rfl, ⟨_, SqL.of (x1 _ _ hu)⟩, for_it (walk_list (K := K) (a := u) (xs := ws)) (fun i σ H' => ∃ m2 y3 y4 y5 y6 y7 y8, σ = [some (V.int (n : Nat)), some (.ref u), some (.ref m2), y3, y4, y5, y6, y7, y8] ∧ Same H H' ∧ H' m2 = some (.lst (ml (marks (edges (js.take i))) n)))
      ⟨P1, _, _, _, _, _, _, rfl, x1, hP1⟩ (fun i σ H' _ h => by obtain ⟨_, _, _, _, _, _, _, _, s, _⟩ := h; exact SqL.of (s _ _ hu)) ?_ ?_⟩
    · rintro i x σ H2 H3 hi ⟨m2, y3, y4, y5, y6, y7, y8, rfl, s2, hm⟩ ⟨rfl, hx⟩
      obtain ⟨j, tj, hj, rfl, tq⟩ := joins_at5 jv hx
      obtain ⟨d1, d2⟩ := ed j (List.mem_of_getElem? hj)
      have tq2 := tq.same s2
      have es := edges_snoc hj
      generalize eM : marks (edges (js.take i)) = m at hm
      have ms : marks (edges (js.take (i + 1))) = mstep m (j.1.1, j.2.1) := by rw [es, marks_snoc, eM]
      refine ⟨_, rfl, _, rfl, tj, _, 0, _, rfl, rfl, tq2.sq, ix0, m2, _, (j.1.1 : Nat), _, rfl, rfl, SqL.of hm, atI_nat (ml_at m d1), _, rfl, _, rfl, tj, _, 2, _, rfl, rfl, tq2.sq, ix2, m2, _, (j.2.1 : Nat), _, rfl, rfl, SqL.of hm, atI_nat (ml_at m d2), by show 2 ≤ sizeLine; decide, fun t nt => ?_⟩
      have x3 := same_new (o := .tup [.int (m j.1.1 : Nat), .int (m j.2.1 : Nat)]) nt
      refine ⟨t, _, rfl, SqT.of upd_same, rfl, _, _, rfl, _, _, rfl, rfl, ?_⟩
      have s3 := s2.trans x3
      have hm3 := x3 _ _ hm
      generalize upd H3 t (.tup [.int (m j.1.1 : Nat), .int (m j.2.1 : Nat)]) = H4 at x3 s3 hm3 ⊢
      refine ⟨_, rfl, _, rfl, rfl, _, rfl, ?_⟩
      refine ite2 (fun cc => ?_) (fun cc => ?_)
      · refine ⟨_, rfl, m2, rfl, ⟨_, SqL.of hm3⟩, fun D nD => ?_⟩
        refine lc_mapW (walk_list (K := K) (a := m2) (xs := ml m n)) (ml (mstep m (j.1.1, j.2.1)) n) (by rw [ml_len, ml_len]) (by rw [ml_len]; omega) nD (fun H5 s5 => SqL.of (s5 _ _ hm3)) (fun i H x H' h => by rw [h.1]; exact Same.refl _) (fun i2 y H5 H6 R hi2 s5 hy hR => ?_) (fun H5 s5 hD => ?_)
        · obtain ⟨rfl, hy⟩ := hy
          rw [ml_len] at hi2
          rw [ml_at m hi2] at hy
          injection hy with hy
          subst hy
          have hv : (ml (mstep m (j.1.1, j.2.1)) n)[i2]? = some (V.int (mstep m (j.1.1, j.2.1) i2 : Nat)) := ml_at _ hi2
          refine ⟨rfl, _, rfl, _, rfl, rfl, _, rfl, ?_⟩
          refine ite2 (fun c2 => ?_) (fun c2 => ?_)
          · have e2 : m i2 = m j.2.1 := by
              have q := of_decide_eq_true c2
              injection q with q
              omega
            refine ⟨_, rfl, hR _ _ ?_ (Same.refl _)⟩
            rw [hv]
            unfold mstep
            rw [if_pos e2]
          · have e2 : ¬ m i2 = m j.2.1 := fun z => c2 (decide_eq_true (by rw [z]))
            refine ⟨_, rfl, hR _ _ ?_ (Same.refl _)⟩
            rw [hv]
            unfold mstep
            rw [if_neg e2]
        · exact ⟨D, _, _, _, _, _, _, rfl, s3.trans s5, by rw [ms]; exact hD⟩
      · have e2 : m j.1.1 = m j.2.1 := Decidable.byContradiction fun z => cc (by
          rw [show decide (V.int ((m j.1.1 : Nat) : Int) = V.int ((m j.2.1 : Nat) : Int)) = false from decide_eq_false fun q => z (by injection q with q; omega)]
          rfl)
        refine ⟨m2, _, _, _, _, _, _, rfl, s3, ?_⟩
        rw [ms, show mstep m (j.1.1, j.2.1) = m from funext fun i2 => by
          show (if m i2 = m j.2.1 then m j.1.1 else m i2) = m i2
          by_cases c2 : m i2 = m j.2.1
          · rw [if_pos c2, e2, c2]
          · rw [if_neg c2]]
        exact hm3
    · rintro σ Ha ⟨m2, y3, y4, y5, y6, y7, y8, rfl, sa, hm⟩
      rw [lw, List.take_of_length_le (Nat.le_refl _)] at hm
      have eC : comps n (edges js) = rows (marks (edges js)) (List.range n) := rfl
      generalize marks (edges js) = m at hm eC
      refine fun d nd => ?_
      have x2 := same_new (o := .dK []) nd
      have hd : upd Ha d (.dK []) d = some (.dK []) := upd_same
      generalize upd Ha d (.dK []) = Hb at x2 hd ⊢
      refine ⟨_, rfl, m2, _, rfl, SqL.of (x2 _ _ hm), for_it walk_enum (fun i σ H' => ∃ y3 y4 y5 y6 y8, σ = [some (V.int (n : Nat)), some (.ref u), some (.ref m2), y3, y4, y5, y6, some (.ref d), y8] ∧ Same Ha H' ∧ ∃ kvs, H' d = some (.dK kvs) ∧ GP Ha H' kvs (gfold m (List.range i)) ∧ (kvs.map (·.2)).Nodup)
        ⟨_, _, _, _, _, rfl, x2, [], hd, .nil, List.nodup_nil⟩ (fun i σ H' _ h => by obtain ⟨_, _, _, _, _, _, s, _⟩ := h; exact SqL.of (s _ _ hm)) ?_ ?_⟩
      · rintro i x σ H3 H4 hi ⟨y3, y4, y5, y6, y8, rfl, s3, kvs, hd3, gp, nd3⟩ ⟨T, uu, v, rfl, nT, rfl, hu', hv⟩
        cases hu'
        have hin : i < n := by
          have : i < (ml m n).length := hi
          rwa [ml_len] at this
        have hv : (ml m n)[i]? = some v := hv
        rw [ml_at m hin] at hv
        injection hv with hv
        subst hv
        have t4 := same_new (o := .tup [.int (i : Nat), .int (m i : Nat)]) nT
        have nT3 : ∀ {b o}, H3 b = some o → b ≠ T := fun e => ne_of_none e nT
        refine ⟨T, _, rfl, SqT.of upd_same, rfl, _, _, rfl, _, _, rfl, rfl, ?_⟩
        have s4 := s3.trans t4
        have hd4 := t4 _ _ hd3
        have gp4 : GP Ha (upd H3 T (.tup [.int (i : Nat), .int (m i : Nat)])) kvs (gfold m (List.range i)) := L2.Paired.mapP gp fun _ _ ⟨e1, a, e2, n1, e3⟩ => ⟨e1, a, e2, n1, t4 _ _ e3⟩
        generalize upd H3 T (.tup [.int (i : Nat), .int (m i : Nat)]) = H5 at t4 s4 hd4 gp4 ⊢
        clear gp hd3 s3 nT3
        have gl := gp4.len
        have gL : (gfold m (List.range i)).length ≤ i ∧ ∀ r ∈ (gfold m (List.range i)).map (·.2), r.length ≤ i := by
          obtain ⟨a, b⟩ := rows_len m i (List.range i) (by rw [List.length_range]; exact Nat.le_refl _)
          rw [List.length_range] at a b
          unfold rows at a b
          rw [List.length_map] at a
          exact ⟨a, b⟩
        have gs : gfold m (List.range (i + 1)) = gstep (gfold m (List.range i)) (m i) i := by rw [List.range_succ, gfold_snoc]
        refine ⟨_, rfl, d, rfl, .inl ⟨_, .inl hd4⟩, _, rfl, by show 0 ≤ sizeLine; decide, fun l nl => ?_⟩
        have x6 := same_new (o := .lst []) nl
        have hl : upd H5 l (.lst []) l = some (.lst []) := upd_same
        have hd6 := x6 _ _ hd4
        have nla : ∀ {b o}, H5 b = some o → b ≠ l := fun e => ne_of_none e nl
        have gp6 : GP Ha (upd H5 l (.lst [])) kvs (gfold m (List.range i)) := L2.Paired.mapP gp4 fun _ _ ⟨e1, a, e2, n1, e3⟩ => ⟨e1, a, e2, n1, x6 _ _ e3⟩
        have s6 := s4.trans x6
        have lnew : V.ref l ∉ kvs.map (·.2) := fun hm => by
          obtain ⟨ps, f1, f2, _, _⟩ := gp4.out nd3
          rw [f1] at hm
          obtain ⟨b, hb, e⟩ := List.mem_map.mp hm
          injection e with e
          subst e
          obtain ⟨i3, h3⟩ := List.mem_iff_getElem?.mp hb
          obtain ⟨r, _, q⟩ := paired_at (show Paired _ ps _ from f2) h3
          rw [nl] at q
          cases q
        generalize upd H5 l (.lst []) = H6 at x6 hl hd6 gp6 s6 ⊢
        refine ⟨kvs, Sum.inl ((m i : Nat) : Int), hd6, rfl, by rw [gl, sizeLine_eq]; omega, fun v hv => ?_, fun hn => ?_⟩
        · obtain ⟨a, g, rfl, mem, fa, ha, hg, up⟩ := gp6.found nd3 hv
          have gi := gL.2 g hg
          have nad : a ≠ d := fun z => by
            rw [z, hd6] at ha
            cases ha
          refine ⟨.inl ⟨rfl, _, SqL.of ha⟩, _, rfl, a, _, _, rfl, rfl, ha, by unfold iv; rw [List.length_map, sizeLine_eq]; omega, ?_⟩
          have ev : iv g ++ [V.int (i : Nat)] = iv (g ++ [i]) := by unfold iv; rw [List.map_append]; rfl
          rw [ev]
          refine ⟨_, _, _, _, _, rfl, fun b o e => ?_, kvs, by rw [upd_ne nad.symm]; exact hd6, ?_, nd3⟩
          · rw [upd_ne (ne_of_none e fa)]
            exact s6 _ _ e
          · rw [gs]
            exact up i _ upd_same fun b hb => upd_ne hb
        · have nld : l ≠ d := fun z => by
            rw [z, hd6] at hl
            cases hl
          have fl : Ha l = none := s4.free nl
          have fd' : Ha d = none := nd
          rw [putK_new _ hn]
          have hl7 : upd H6 d (.dK (kvs ++ [(Sum.inl ((m i : Nat) : Int), V.ref l)])) l = some (.lst []) := by rw [upd_ne nld]; exact hl
          refine ⟨.inl ⟨rfl, _, SqL.of hl7⟩, _, rfl, l, _, _, rfl, rfl, hl7, by show 0 < sizeLine; decide, ?_⟩
          refine ⟨_, _, _, _, _, rfl, fun b o e => ?_, kvs ++ [(Sum.inl ((m i : Nat) : Int), V.ref l)], by rw [upd_ne nld.symm]; exact upd_same, ?_, ?_⟩
          · rw [upd_ne (ne_of_none e fl), upd_ne (ne_of_none e fd')]
            exact s6 _ _ e
          · rw [gs, gp6.fail hn]
            refine paired_app (gp6.keep fun b hb => ?_) (.cons ⟨rfl, l, rfl, fl, upd_same⟩ .nil)
            have nbl : b ≠ l := fun z => lnew (by rw [← z]; exact hb)
            obtain ⟨ps, f1, f2, _, _⟩ := gp6.out nd3
            have nbd : b ≠ d := fun z => by
              rw [f1] at hb
              obtain ⟨b2, hb2, e⟩ := List.mem_map.mp hb
              injection e with e
              subst e
              obtain ⟨i3, h3⟩ := List.mem_iff_getElem?.mp hb2
              obtain ⟨r, _, q⟩ := paired_at (show Paired _ ps _ from f2) h3
              rw [z, hd6] at q
              cases q
            rw [upd_ne nbl, upd_ne nbd]
          · rw [List.map_append]
            refine List.nodup_append.mpr ⟨nd3, (List.nodup_cons.mpr ⟨(fun h => nomatch h), List.nodup_nil⟩), fun a ha b hb => ?_⟩
            have hb2 : b = V.ref l := by simpa using hb
            exact fun z => lnew (by rw [← hb2, ← z]; exact ha)
      · rintro σ H7 ⟨y3, y4, y5, y6, y8, rfl, s7, kvs, hd7, gp, nd7⟩
        rw [ml_len] at gp
        have gl := gp.len
        have gL : (gfold m (List.range n)).length ≤ n := by
          obtain ⟨a, b⟩ := rows_len m n (List.range n) (by rw [List.length_range]; exact Nat.le_refl _)
          rw [List.length_range] at a
          unfold rows at a
          rw [List.length_map] at a
          exact a
        obtain ⟨ps, f1, f2, f3, f4⟩ := gp.out nd7
        refine ⟨_, rfl, d, kvs, rfl, hd7, by omega, fun q nq => ?_⟩
        rw [f1]
        have x8 := same_new (o := .lst (ps.map V.ref)) nq
        refine k q ps _ ((sa.trans s7).trans x8) upd_same ?_ (sa.free (s7.free nq)) (fun p hp => sa.free (f3 p hp)) (List.nodup_cons.mpr ⟨fun hm => ?_, f4⟩)
        · rw [eC]
          exact RowsAt.same x8 f2
        · obtain ⟨i3, h3⟩ := List.mem_iff_getElem?.mp hm
          obtain ⟨r, _, e⟩ := paired_at (show Paired _ ps _ from f2) h3
          rw [nq] at e
          cases e
end
end Toy
set_option Elab.async false
set_option linter.all false
set_option maxRecDepth 100000
set_option maxHeartbeats 4000000
namespace Toy
open PySem PySem.Spec PyProof.Rows L2
/-! ### {..: .. for ..} keyed by numbers or texts, over whatever can be walked -/
theorem dc_it {J : It} {n : Nat} {G : Hp → Prop} {Y : Nat → Hp → V → Hp → Prop} (wk : Walk J n G Y) {g : TG} {tt : TT} {tk tv : TE} {vs : List Nat} {σ : L2.St} {H1 : Hp} {D : Addr} {Qd : Hp → Prop} (Pv : Nat → Hp → Prop) (h0 : Pv 0 (upd H1 D (.dK []))) (hG : ∀ i H, i ≤ n → Pv i H → G H)
    (hs : ∀ i x H H', i < n → Pv i H → Y i H x H' → g x (wipe σ vs) H' fun σ2 H2 => wipe σ2 vs = wipe σ vs ∧ tt σ2 H2 fun b H3 =>
      if b = true then tk σ2 H3 fun y H4 => tv σ2 H4 fun z H5 => ∃ kvs k, y = kV k ∧ H5 D = some (.dK kvs) ∧ kvs.length < sizeLine ∧ Pv (i + 1) (upd H5 D (.dK (putK kvs k z))) else Pv (i + 1) H3) (hd : ∀ H, Pv n H → Qd H) :
    ∃ W : Nat → Nat → Hp → Prop, (∃ m, W 0 m (upd H1 D (.dK []))) ∧ ∀ i m H, W i m H →
      (J.stop i H ∧ Qd H) ∨ (J.go i H ∧ ∃ Nx : Hp → Prop, (∀ H', Nx H' → ∃ m', m' < m ∧ W (i + 1) m' H') ∧ ∀ x H', J.yld i H x H' → g x (wipe σ vs) H' fun σ2 H2 => wipe σ2 vs = wipe σ vs ∧ tt σ2 H2 fun b H3 =>
        if b = true then tk σ2 H3 fun y H4 => tv σ2 H4 fun z H5 => ∃ kvs k, y = kV k ∧ H5 D = some (.dK kvs) ∧ kvs.length < sizeLine ∧ Nx (upd H5 D (.dK (putK kvs k z))) else Nx H3) := by
  refine ⟨fun i m H => m = n - i ∧ i ≤ n ∧ Pv i H, ⟨n, (Nat.sub_zero n).symm, Nat.zero_le _, h0⟩, fun i m H p => ?_⟩
  obtain ⟨rfl, hi, p⟩ := p
  have q := hG i H hi p
  rcases Nat.lt_or_eq_of_le hi with hlt | rfl
  · exact .inr ⟨wk.goes i H hlt q, Pv (i + 1), fun H' p' => ⟨n - (i + 1), by omega, rfl, hlt, p'⟩, fun x H' y => hs i x H H' hlt p (wk.yields i H x H' hlt q y)⟩
  · exact .inl ⟨wk.stops H q, hd H p⟩
end Toy
set_option Elab.async false
set_option linter.all false
set_option maxRecDepth 100000
set_option maxHeartbeats 4000000
namespace Toy
open PySem PySem.Spec PyProof.Rows L2
/-- corners, legs and joins in a tuple -/
structure Tri (H : Hp) (t c g u : Addr) (cs : List Str) (lg : Rows2) (gs ws : List V) (js : List JRow) : Prop where
  tt : TupAt H t [.ref c, .ref g, .ref u]
  hc : H c = some (.lst (cs.map V.str))
  hg : H g = some (.lst gs)
  dg : Dt H (.ref g) (.list (lg.map rowT))
  hu : H u = some (.lst ws)
  jv : JoinsAt H ws js
theorem Tri.same {H H' : Hp} {t c g u : Addr} {cs : List Str} {lg : Rows2} {gs ws : List V} {js : List JRow} (d : Tri H t c g u cs lg gs ws js) (s : Same H H') : Tri H' t c g u cs lg gs ws js := ⟨d.tt.same s, s _ _ d.hc, s _ _ d.hg, d.dg.same s, s _ _ d.hu, d.jv.same s⟩
theorem Tri.lgl {H : Hp} {t c g u : Addr} {cs : List Str} {lg : Rows2} {gs ws : List V} {js : List JRow} (d : Tri H t c g u cs lg gs ws js) : gs.length = lg.length ∧ DtAll H gs (lg.map rowT) := by
  obtain ⟨gv, e, _, r⟩ := dt_list d.dg
  rw [d.hg] at e
  injection e with e
  injection e with e
  subst e
  exact ⟨by rw [r.len, List.length_map], r⟩
def triT (cs : List Str) (lg : Rows2) (js : List JRow) : PyData := .tuple [.list (cs.map .str), .list (lg.map rowT), .list (js.map joinT)]
theorem Tri.dt {H : Hp} {t c g u : Addr} {cs : List Str} {lg rows : Rows2} {gs ws : List V} {js : List JRow} (d : Tri H t c g u cs lg gs ws js) (nm : ∀ x ∈ cs, nameS x = true) (c6 : cs.length ≤ 6) (gj : ∀ j ∈ js, GoodJ rows j) (l40 : js.length ≤ 80) : Dt H (.ref t) (triT cs lg js) := by
  refine .tup d.tt (by show 3 ≤ 1000; decide) (.cons ?_ (.cons d.dg (.cons ?_ .nil)))
  · exact .lst d.hc (by rw [List.length_map]; omega) (DtAll.strs cs fun x hx => okS_name (nm x hx))
  · exact .lst d.hu (by rw [d.jv.len]; omega) (d.jv.dt gj)
theorem low_tri (cs : List Str) (lg : Rows2) (js : List JRow) : Low 20 (triT cs lg js) := by
  have q1 := depth_all (n := 0) (ds := cs.map PyData.str) fun d hd => by
    obtain ⟨x, _, rfl⟩ := List.mem_map.mp hd
    exact Nat.le_refl _
  have q2 := depth_all (n := 1) (ds := lg.map rowT) fun d hd => by
    obtain ⟨g, _, rfl⟩ := List.mem_map.mp hd
    exact (low_row g).2
  have q3 := depth_all (n := 1) (ds := js.map joinT) fun d hd => by
    obtain ⟨j, _, rfl⟩ := List.mem_map.mp hd
    have z := depth_all (n := 0) (ds := [PyData.int (j.1.1 : Nat), .str j.1.2, .int (j.2.1 : Nat), .str j.2.2]) fun d hd => by
      have hd2 : d = .int (j.1.1 : Nat) ∨ d = .str j.1.2 ∨ d = .int (j.2.1 : Nat) ∨ d = .str j.2.2 := by simpa using hd
      rcases hd2 with rfl | rfl | rfl | rfl <;> exact Nat.le_refl _
    show PyData.depthAll [PyData.int (j.1.1 : Nat), .str j.1.2, .int (j.2.1 : Nat), .str j.2.2] + 1 ≤ 1
    omega
  have q := depth_all (n := 5) (ds := [PyData.list (cs.map .str), .list (lg.map rowT), .list (js.map joinT)]) fun d hd => by
    have hd2 : d = .list (cs.map .str) ∨ d = .list (lg.map rowT) ∨ d = .list (js.map joinT) := by simpa using hd
    rcases hd2 with rfl | rfl | rfl
    · show PyData.depthAll _ + 1 ≤ 5
      omega
    · show PyData.depthAll _ + 1 ≤ 5
      omega
    · show PyData.depthAll _ + 1 ≤ 5
      omega
  have n1 : noDict (.list (cs.map .str)) = true := noDicts_all fun d hd => by obtain ⟨x, _, rfl⟩ := List.mem_map.mp hd; rfl
  have n2 : noDict (.list (lg.map rowT)) = true := (low_rows lg).nd
  have n3 : noDict (.list (js.map joinT)) = true := (low_joins js).nd
  refine ⟨?_, ?_⟩
  · show (noDict (.list (cs.map .str)) && (noDict (.list (lg.map rowT)) && (noDict (.list (js.map joinT)) && true))) = true
    rw [n1, n2, n3]
    rfl
  · show PyData.depthAll [PyData.list (cs.map .str), .list (lg.map rowT), .list (js.map joinT)] + 1 ≤ 20
    omega
end Toy
set_option Elab.async false
set_option linter.all false
set_option maxRecDepth 100000
set_option maxHeartbeats 4000000
namespace Toy
open PySem PySem.Spec PyProof.Rows L2
theorem rows_ne (m : Nat → Nat) : ∀ (n : Nat) (L : List Nat), L.length ≤ n → ∀ r ∈ rows m L, r ≠ []
  | _, [], _, r, h => nomatch h
  | n + 1, p :: L, hl, r, h => by
    rw [rows_cons] at h
    rcases List.mem_cons.mp h with e | e
    · rw [e]
      exact fun z => nomatch z
    · exact rows_ne m n _ (Nat.le_trans (List.length_filter_le _ _) (Nat.le_of_succ_le_succ hl)) r e
theorem rows_facts (m : Nat → Nat) : ∀ (n : Nat) (L : List Nat), L.length ≤ n → L.Pairwise (· < ·) → ∀ r ∈ rows m L, r.Pairwise (· < ·) ∧ ∃ v, ∀ p, p ∈ r ↔ p ∈ L ∧ m p = v
  | _, [], _, _, r, h => nomatch h
  | n + 1, p :: L, hl, pw, r, h => by
    obtain ⟨p1, p2⟩ := List.pairwise_cons.mp pw
    rw [rows_cons] at h
    rcases List.mem_cons.mp h with e | e
    · subst e
      refine ⟨List.pairwise_cons.mpr ⟨fun q hq => p1 q (List.mem_filter.mp hq).1, List.Pairwise.filter _ p2⟩, m p, fun q => ?_⟩
      constructor
      · intro hq
        rcases List.mem_cons.mp hq with z | z
        · rw [z]
          exact ⟨List.mem_cons_self, rfl⟩
        · obtain ⟨a, b⟩ := List.mem_filter.mp z
          exact ⟨List.mem_cons_of_mem _ a, of_decide_eq_true b⟩
      · rintro ⟨hq, e⟩
        rcases List.mem_cons.mp hq with z | z
        · rw [z]
          exact List.mem_cons_self
        · exact List.mem_cons_of_mem _ (List.mem_filter.mpr ⟨z, decide_eq_true e⟩)
    · obtain ⟨a, v, b⟩ := rows_facts m n (L.filter fun q => decide (m q ≠ m p)) (Nat.le_trans (List.length_filter_le _ _) (Nat.le_of_succ_le_succ hl)) (List.Pairwise.filter _ p2) r e
      by_cases nr : ∃ q, q ∈ r
      · obtain ⟨q0, h0⟩ := nr
        obtain ⟨c1, c2⟩ := (b q0).mp h0
        have nv : m p ≠ v := fun z => of_decide_eq_true (List.mem_filter.mp c1).2 (by rw [c2, z])
        refine ⟨a, v, fun q => ⟨fun hq => ?_, fun ⟨hq, e⟩ => ?_⟩⟩
        · obtain ⟨d1, d2⟩ := (b q).mp hq
          exact ⟨List.mem_cons_of_mem _ (List.mem_filter.mp d1).1, d2⟩
        · rcases List.mem_cons.mp hq with z | z
          · rw [z] at e
            exact absurd e nv
          · exact (b q).mpr ⟨List.mem_filter.mpr ⟨z, decide_eq_true (by rw [e]; exact fun w => nv w.symm)⟩, e⟩
      · -- no row is empty
        exact absurd (rows_ne m n _ (Nat.le_trans (List.length_filter_le _ _) (Nat.le_of_succ_le_succ hl)) r e) (by
          intro h
          cases r with
          | nil => exact h rfl
          | cons x xs => exact nr ⟨x, List.mem_cons_self⟩)
theorem comps_facts {n : Nat} {js : List JRow} (plc : ∀ j ∈ js, j.1.1 < n ∧ j.2.1 < n) {r : List Nat} (h : r ∈ comps n (edges js)) : r.Pairwise (· < ·) ∧ (∀ p ∈ r, p < n) ∧ ∀ j ∈ js, (j.1.1 ∈ r ↔ j.2.1 ∈ r) := by
  obtain ⟨a, v, b⟩ := rows_facts (marks (edges js)) n (List.range n) (by rw [List.length_range]; exact Nat.le_refl _) List.pairwise_lt_range r h
  refine ⟨a, fun p hp => List.mem_range.mp ((b p).mp hp).1, fun j hj => ?_⟩
  obtain ⟨p1, p2⟩ := plc j hj
  have e := marks_edge (edges js) (j.1.1, j.2.1) (List.mem_map.mpr ⟨j, hj, rfl⟩)
  have e : marks (edges js) j.1.1 = marks (edges js) j.2.1 := e
  rw [b, b, e]
  exact ⟨fun h => ⟨List.mem_range.mpr p2, h.2⟩, fun h => ⟨List.mem_range.mpr p1, h.2⟩⟩
theorem snocF {α : Type} {xs : List α} {p : α → Bool} {i : Nat} {x : α} (h : xs[i]? = some x) : (xs.take (i + 1)).filter p = if p x = true then (xs.take i).filter p ++ [x] else (xs.take i).filter p := by
  rw [take_snoc h, List.filter_append]
  by_cases c : p x = true
  · rw [if_pos c, List.filter_cons_of_pos c]
    rfl
  · rw [if_neg c, List.filter_cons_of_neg c, List.filter_nil, List.append_nil]
theorem dt_pick {H : Hp} {gs : List V} {lg : Rows2} (rg : DtAll H gs (lg.map rowT)) (m : Nat) : ∀ L : List Nat, (∀ p ∈ L, p - m < lg.length) → DtAll H (L.map fun p => (gs[p - m]?).getD .non) ((L.map fun p => legAt lg (p - m)).map rowT)
  | [], _ => .nil
  | p :: L, h => by
    have hl := h p List.mem_cons_self
    have gl := rg.len
    rw [List.length_map] at gl
    obtain ⟨d, hd, hdt⟩ := rg.at_ (List.getElem?_eq_getElem (show p - m < gs.length by omega))
    rw [List.getElem?_map, legAt_of hl] at hd
    have ed : rowT (legAt lg (p - m)) = d := Option.some.inj hd
    refine .cons ?_ (dt_pick rg m L fun q hq => h q (List.mem_cons_of_mem _ hq))
    show Dt H ((gs[p - m]?).getD .non) (rowT (legAt lg (p - m)))
    rw [List.getElem?_eq_getElem (show p - m < gs.length by omega), ed]
    exact hdt
theorem DrawIn.le18 {C : Addr} {H : Hp} {a c g l : Addr} {rows : Rows2} {ks : List KRow} {cs : List Str} {lg : Rows2} {gs ws : List V} {js : List JRow} (d : DrawIn C H a c g l rows ks cs lg gs ws js) : js.length ≤ 18 := by
  have e := d.perm.length_eq
  rw [List.length_append, List.length_map, List.length_map] at e
  have h1 := cornE_len d.k5 cs 0
  have h2 := congrArg List.length (legE_sorts lg cs.length)
  rw [List.length_map, List.length_map] at h2
  unfold allE at e
  rw [List.length_append] at e
  have := d.l6
  have := d.lg6
  omega
def spManyPl (C D : Addr) : Sp := fun vs H Q _ => ∃ (x a : Addr) (rows : Rows2) (ks : List KRow) (cs : List Str) (lg : Rows2) (gs ws : List V) (js : List JRow), vs = [.ref x] ∧ DrG C D H x a rows ks cs lg gs ws js ∧ Q (.int ((cs.length + lg.length : Nat) : Int)) H
def spPart (C D : Addr) : Sp := fun vs H Q _ => ∃ (x a r0 : Addr) (rows : Rows2) (ks : List KRow) (cs : List Str) (lg : Rows2) (gs ws : List V) (js : List JRow) (r : List Nat) (Hb : Hp) (q0 : Addr) (xs0 : List V), vs = [.ref x, .ref r0] ∧ Same Hb H ∧ Hb q0 = none ∧ H q0 = some (.lst xs0) ∧ DrG C D Hb x a rows ks cs lg gs ws js ∧ GoodS rows ∧ GoodK (rows.map (·.1)) ks ∧ Mut rows ∧
  H r0 = some (.lst (iv r)) ∧ r.Pairwise (· < ·) ∧ (∀ p ∈ r, p < cs.length + lg.length) ∧ (∀ j ∈ js, (j.1.1 ∈ r ↔ j.2.1 ∈ r)) ∧
  ∀ (z : Addr) (gs' ws' : List V) (H' : Hp), H z = none → Same H H' → (∀ HX, Off q0 H' HX → DrG C D HX z a rows ks (pC cs r) (pL cs lg r) gs' ws' (pJ (cs.length + lg.length) r js)) → Q (.ref z) H'
def PartsAt (C D : Addr) (H : Hp) (a : Addr) (rows : Rows2) (ks : List KRow) (cs : List Str) (lg : Rows2) (js : List JRow) (zs : List Addr) (rs : List (List Nat)) : Prop := Paired (fun z r => ∃ gs' ws', DrG C D H z a rows ks (pC cs r) (pL cs lg r) gs' ws' (pJ (cs.length + lg.length) r js)) zs rs
theorem PartsAt.same {C D : Addr} {H H' : Hp} {a : Addr} {rows : Rows2} {ks : List KRow} {cs : List Str} {lg : Rows2} {js : List JRow} {zs : List Addr} {rs : List (List Nat)} (h : PartsAt C D H a rows ks cs lg js zs rs) (s : Same H H') : PartsAt C D H' a rows ks cs lg js zs rs :=
  L2.Paired.mapP h fun _ _ ⟨gs', ws', d⟩ => ⟨gs', ws', d.same s⟩
def spParts (C D : Addr) : Sp := fun vs H Q _ => ∃ (x a : Addr) (rows : Rows2) (ks : List KRow) (cs : List Str) (lg : Rows2) (gs ws : List V) (js : List JRow), vs = [.ref x] ∧ DrG C D H x a rows ks cs lg gs ws js ∧ GoodS rows ∧ GoodK (rows.map (·.1)) ks ∧ Mut rows ∧
  ∀ (q : Addr) (zs : List Addr) (H' : Hp), H q = none → Same H H' → H' q = some (.lst (zs.map V.ref)) → PartsAt C D H' a rows ks cs lg js zs (comps (cs.length + lg.length) (edges js)) → Q (.ref q) H'
def spIsWhole (C D : Addr) : Sp := fun vs H Q _ => ∃ (x a : Addr) (rows : Rows2) (ks : List KRow) (cs : List Str) (lg : Rows2) (gs ws : List V) (js : List JRow), vs = [.ref x] ∧ DrG C D H x a rows ks cs lg gs ws js ∧ ∀ H', Same H H' → Q (.bl (decide ((comps (cs.length + lg.length) (edges js)).length = 1))) H'
section
variable {P : Program} {w : World} {K : PySem.W.Frag} {mg : Str → Option Value} {base : Heap}
abbrev mpN : List Str := ["drawing"]
theorem scManyPl : FnScope mpN ["drawing"] (defScope sManyPl) := ⟨rfl, rfl, rfl, by decide +kernel, rfl, by decide +kernel, by decide +kernel⟩
theorem ok_manyPl {f C D : Addr} {fd : FuncData} (F : Fun K "_many_places" "_many_places" sManyPl f fd) (M : Mods mg) (TD : DrC K mg D) :
    FnOk P w K mg base CX0 1 f fd ["drawing"] (spManyPl C D) := by
  refine F.ok scManyPl (fun vs H Q E h => ?_) (fun cdv A outer s H vs Q E hr h => ?_)
  · obtain ⟨x, a, rows, ks, cs, lg, gs, ws, js, rfl, _⟩ := h
    rfl
  · obtain ⟨x, a, rows, ks, cs, lg, gs, ws, js, rfl, dg, k⟩ := h
    refine ⟨_, (pss_one (ps_ret (pe_op op_add (pe_callB call_len_seq (by rfl) M.len PySem.boot_len (pa_cons (pe_fld (pv 0) rfl) pa_nil)) (pe_callB call_len_seq (by rfl) M.len PySem.boot_len (pa_cons (pe_fld (pv 0) rfl) pa_nil))))), ?_⟩
    obtain ⟨dx, l1, l2, l3, hx, DI⟩ := dg
    obtain ⟨gv, eg, lgv, rg⟩ := dt_list DI.dg
    have e1 := DI.hg
    rw [eg] at e1
    injection e1 with e1
    injection e1 with e1
    subst e1
    have gl := rg.len
    rw [List.length_map] at gl
    refine ⟨_, rfl, x, D, dx, _, _, rfl, hx, TD.cl, TD.nC, df_corners _ _ _ _, l1, _, rfl, .inl (SqL.of DI.hc), _, rfl, x, D, dx, _, _, rfl, hx, TD.cl, TD.nL, df_legs _ _ _ _, l2, _, rfl, .inl (SqL.of DI.hg), _, _, rfl, rfl, ?_⟩
    dsimp only
    rw [List.length_map, gl]
    exact k
abbrev iwN : List Str := ["drawing"]
theorem scIsWhole : FnScope iwN ["drawing"] (defScope sIsWhole) := ⟨rfl, rfl, rfl, by decide +kernel, rfl, by decide +kernel, by decide +kernel⟩
theorem ok_isWhole {f fMP fHG C D : Addr} {fd fdMP fdHG : FuncData} (F : Fun K "is_whole" "is_whole" sIsWhole f fd) (M : Mods mg) (TD : DrC K mg D)
    (GMP : FnOk P w K mg base CX0 1 fMP fdMP ["drawing"] (spManyPl C D)) (kMP : PySem.W.keepIn K (.ref fMP) = true) (bMP : Binds K fdMP ["drawing"] []) (gMP : mg "_many_places" = some (.ref fMP))
    (GHG : FnOk P w K mg base CX0 1 fHG fdHG ["many", "joins"] spHang) (kHG : PySem.W.keepIn K (.ref fHG) = true) (bHG : Binds K fdHG ["many", "joins"] []) (gHG : mg "hanging" = some (.ref fHG)) :
    FnOk P w K mg base CX0 2 f fd ["drawing"] (spIsWhole C D) := by
  refine F.ok scIsWhole (fun vs H Q E h => ?_) (fun cdv A outer s H vs Q E hr h => ?_)
  · obtain ⟨x, a, rows, ks, cs, lg, gs, ws, js, rfl, _⟩ := h
    rfl
  · obtain ⟨x, a, rows, ks, cs, lg, gs, ws, js, rfl, dg, k⟩ := h
    refine ⟨_, (pss_one (ps_ret (pe_cmpR op_eq (pe_callB call_len_seq (by rfl) M.len PySem.boot_len (pa_cons (pe_call GHG hr (by rfl) gHG kHG bHG .nil pass0 (pa_cons (pe_call GMP hr (by rfl) gMP kMP bMP .nil pass0 (pa_cons (pv 0) pa_nil)) (pa_cons (pe_fld (pv 0) rfl) pa_nil))) pa_nil)) pe_int (nomark _)))), ?_⟩
    obtain ⟨dx, l1, l2, l3, hx, DI⟩ := id dg
    have plc := DI.places
    have l6 := DI.l6
    have lg6 := DI.lg6
    have l18 := DI.le18
    refine ⟨_, rfl, x, a, rows, ks, cs, lg, gs, ws, js, rfl, dg, ?_⟩
    refine ⟨_, rfl, x, D, dx, _, _, rfl, hx, TD.cl, TD.nJ, df_joins _ _ _ _, cs.length + lg.length, l3, ws, js, rfl, DI.hl, DI.ja, plc, by omega, by omega, fun q0 ps0 H1 s1 hq0 rw0 nq0 np0 nd0 => ?_⟩
    refine ⟨q0, _, rfl, .inl (SqL.of hq0), rfl, ?_⟩
    have lps0 : (ps0.map V.ref).length = (comps (cs.length + lg.length) (edges js)).length := by
      rw [List.length_map]
      exact (show Paired _ ps0 _ from rw0).length
    rw [lps0]
    have e : decide (V.int (((comps (cs.length + lg.length) (edges js)).length : Nat) : Int) = V.int 1) = decide ((comps (cs.length + lg.length) (edges js)).length = 1) := decide_eq_decide.mpr ⟨fun h => by injection h with h; omega, fun h => by rw [h]; rfl⟩
    rw [e]
    exact k _ s1
-- CUT1
abbrev ptN : List Str := ["drawing", "places", "many", "numbers", "number", "place", "corners", "legs", "joins", "join"]
theorem scPart : FnScope ptN ["drawing", "places"] (defScope sPart) := ⟨rfl, rfl, rfl, by decide +kernel, rfl, by decide +kernel, by decide +kernel⟩
theorem ok_part {f fI fMV C D : Addr} {fd fdI fdMV : FuncData} (F : Fun K "_part" "_part" sPart f fd) (M : Mods mg) (TD : DrC K mg D) (makD : Mk K D fI) (mEn : mg "enumerate" = none)
    (GI : FnOk P w K mg base (L2.CX P w) 5 fI fdI ["self", "stock", "corners", "legs", "joins"] (spDInit C D)) (bI : Binds K fdI ["self", "stock", "corners", "legs", "joins"] [])
    (GMV : FnOk P w K mg base CX0 1 fMV fdMV ["joins", "places"] spPMovedD) (kMV : PySem.W.keepIn K (.ref fMV) = true) (bMV : Binds K fdMV ["joins", "places"] []) (gMV : mg "moved" = some (.ref fMV)) :
    FnOk P w K mg base (L2.CX P w) 7 f fd ["drawing", "places"] (spPart C D) := by
  refine F.okX scPart (fun vs H Q E h => ?_) (fun cdv A outer s H vs Q E hr h => ?_)
  · obtain ⟨x, a, r0, rows, ks, cs, lg, gs, ws, js, r, Hb, q0, xs0, rfl, _⟩ := h
    rfl
  · obtain ⟨x, a, r0, rows, ks, cs, lg, gs, ws, js, r, Hb, q0, xs0, rfl, sb, nb, hq0, dgb, gd, gk, mu, hr0, pw, lt, cl, k⟩ := h
    have dg := dgb.same sb
    have hr1 : Room 1 (A.deeper (envOfC "_part" (defScope sPart) s.heap.objs.size f cdv)) := hr.mono (by decide)
    refine ⟨_, (pss_cons (ps_set (i := 2) scPart.nd rfl (Or.inr rfl) (pe_callB call_len_seq (by rfl) M.len PySem.boot_len (pa_cons (pe_fld (pv 0) rfl) pa_nil)))
      (pss_cons (ps_set (i := 3) scPart.nd rfl (Or.inr rfl) (pe_dc (own := [("number", 4), ("place", 5)]) (g := gTup K 2 (gCons (gName 4) (gCons (gName 5) gNil))) (tt := tYes) (tk := (tVar 5)) (tv := (tVar 4)) rfl scPart.nd (pi_enum (by rfl) mEn (pa_cons (pv 1) pa_nil)) (blkOk_by (N := ptN) (sc := defScope sPart) (by decide +kernel)) (fun _ _ _ _ _ => (pg_tup rfl (pgs_cons (pg_name (i := 4) scPart.nd rfl (Or.inl rfl)) (pgs_cons (pg_name (i := 5) scPart.nd rfl (Or.inl rfl)) pgs_nil)))) (fun _ _ _ _ _ => pts_nil) (fun _ _ _ _ _ => (by exact (pv 5))) (fun _ _ _ _ _ => (by exact (pv 4)))))
      (pss_cons (ps_setLc (i := 6) (own := [("place", 5)]) (g := gName 5) (tt := tTest (tOp (rI0 fun i j => .bl (decide (i < j))) (tVar 5) (tVar 2))) (te := (tOp (rIxL K) (tFld K (tVar 0) "corners") (tVar 5))) rfl scPart.nd rfl rfl (sw_true rfl rfl rfl (by decide +kernel)) (pi_list (pv 1)) (blkOk_by (N := ptN) (sc := defScope sPart) (by decide +kernel)) (fun _ _ _ _ _ => pg_name (i := 5) scPart.nd rfl (Or.inl rfl)) (fun _ _ _ _ _ => pts_one (pt_cmpR op_lt (pv 5) (pv 2) (nomark _))) (fun _ _ _ _ _ => (by exact (pe_ix ix_list (pe_fld (pv 0) rfl) (pv 5) (fun _ _ => rfl)))))
      (pss_cons (ps_setLc (i := 7) (own := [("place", 5)]) (g := gName 5) (tt := tTest (tOp (rI0 fun i j => .bl (decide (i ≥ j))) (tVar 5) (tVar 2))) (te := (tOp (rIxL K) (tFld K (tVar 0) "legs") (tOp (rI0 fun i j => .int (i - j)) (tVar 5) (tVar 2)))) rfl scPart.nd rfl rfl (sw_true rfl rfl rfl (by decide +kernel)) (pi_list (pv 1)) (blkOk_by (N := ptN) (sc := defScope sPart) (by decide +kernel)) (fun _ _ _ _ _ => pg_name (i := 5) scPart.nd rfl (Or.inl rfl)) (fun _ _ _ _ _ => pts_one (pt_cmpR op_ge (pv 5) (pv 2) (nomark _))) (fun _ _ _ _ _ => (by exact (pe_ix ix_list (pe_fld (pv 0) rfl) (pe_op op_sub (pv 5) (pv 2)) (fun _ _ => rfl)))))
      (pss_cons (ps_setLc (i := 8) (own := [("join", 9)]) (g := gName 9) (tt := tB (tDIn (tOp (rIxT K) (tVar 9) (tC (.int 0))) (tVar 3))) (te := (tVar 9)) rfl scPart.nd rfl rfl (sw_true rfl rfl rfl (by decide +kernel)) (pi_list (pe_fld (pv 0) rfl)) (blkOk_by (N := ptN) (sc := defScope sPart) (by decide +kernel)) (fun _ _ _ _ _ => pg_name (i := 9) scPart.nd rfl (Or.inl rfl)) (fun _ _ _ _ _ => pts_one (pt_cmp (pc_din (hu_of hr) (pe_ix ix_tup (pv 9) pe_int (fun _ _ => rfl)) (pv 3)))) (fun _ _ _ _ _ => (by exact (pv 9))))
      (pss_one (ps_ret (pe_makeS (E := noE) makD GI hr (by rfl) TD.mgD bI (fun σ => passN σ) (pa_cons (pe_fld (pv 0) rfl) (pa_cons (pv 6) (pa_cons (pv 7) (pa_cons (pe_call GMV hr1 (by rfl) gMV kMV bMV .nil pass0 (pa_cons (pv 8) (pa_cons (pv 3) pa_nil))) pa_nil)))))))))))), ?_⟩
    obtain ⟨dx, l1, l2, l3, hxb, DIb⟩ := id dgb
    have hx := sb _ _ hxb
    have DI := DIb.same sb
    have plc := DI.places
    have l6 := DI.l6
    have lg6 := DI.lg6
    have l18 := DI.le18
    have lw := DI.ja.len
    have nd := inc_nodup pw
    have rl12 : r.length ≤ 12 := by
      have q : r.length ≤ (List.range (cs.length + lg.length)).length := nodup_leN nd fun p hp => List.mem_range.mpr (lt p hp)
      rw [List.length_range] at q
      omega
    -- the numbers
    refine ⟨_, rfl, x, D, dx, _, _, rfl, hx, TD.cl, TD.nC, df_corners _ _ _ _, l1, _, rfl, .inl (SqL.of DI.hc), ?_⟩
    rw [List.length_map]
    refine ⟨_, rfl, r0, _, rfl, SqL.of hr0, fun D1 nD1 => ?_⟩
    refine dc_it walk_enum (fun i H' => Same H (del H' D1) ∧ ∃ kvs, H' D1 = some (.dK kvs) ∧ kvs.length ≤ i ∧ ∀ p : Nat, valV kvs (Sum.inl ((p : Nat) : Int)) = if p ∈ r.take i then some (.int (r.idxOf p : Nat)) else none) ⟨same_del' nD1, [], upd_same, Nat.le_refl _, fun p => by rw [valV_nil, if_neg (by rw [List.take_zero]; exact fun h => nomatch h)]⟩ (fun i H' _ h => SqL.of (del_sub _ _ (h.1 _ _ hr0))) ?_ ?_
    · rintro i xv H3 H4 hi ⟨s3, kvs, hD3, kl, kv⟩ ⟨T, uu, v, rfl, nT, rfl, hu', hv⟩
      cases hu'
      have hi2 : i < r.length := by
        have : i < (iv r).length := hi
        rwa [show (iv r).length = r.length from List.length_map _] at this
      obtain ⟨p, hp⟩ : ∃ p, r[i]? = some p := ⟨_, List.getElem?_eq_getElem hi2⟩
      have hv : (iv r)[i]? = some v := hv
      have hv2 : (iv r)[i]? = some (V.int (p : Nat)) := by
        unfold iv
        rw [List.getElem?_map, hp]
        rfl
      rw [hv2] at hv
      injection hv with hv
      subst hv
      have t4 := same_new (o := .tup [.int (i : Nat), .int (p : Nat)]) nT
      have hD4 := t4 _ _ hD3
      have s4 := s3.trans (same_del (l := D1) t4)
      refine ⟨T, _, rfl, SqT.of upd_same, rfl, _, _, rfl, _, _, rfl, rfl, ?_⟩
      generalize upd H3 T (.tup [.int (i : Nat), .int (p : Nat)]) = H5 at t4 hD4 s4 ⊢
      refine ⟨rfl, ?_⟩
      delta tYes
      dsimp only
      rw [if_pos rfl]
      have ei : r.idxOf p = i := by
        obtain ⟨hl, e⟩ := List.getElem?_eq_some_iff.mp hp
        rw [← e, nd.idxOf_getElem i hl]
      refine ⟨_, rfl, _, rfl, kvs, Sum.inl ((p : Nat) : Int), rfl, hD4, by rw [sizeLine_eq]; omega, s4.trans del_upd_same, putK kvs (Sum.inl ((p : Nat) : Int)) (.int (i : Nat)), upd_same, ?_, fun q => ?_⟩
      · have := length_putK kvs (Sum.inl ((p : Nat) : Int)) (V.int (i : Nat))
        omega
      · rw [valV_put, take_snoc hp]
        by_cases c : q = p
        · subst c
          rw [if_pos rfl, if_pos (List.mem_append_right _ List.mem_cons_self), ei]
        · rw [if_neg (fun z => c (by have := Sum.inl.inj z; omega)), kv q]
          by_cases c2 : q ∈ r.take i
          · rw [if_pos c2, if_pos (List.mem_append_left _ c2)]
          · rw [if_neg c2, if_neg (fun z => (List.mem_append.mp z).elim c2 fun w => c (List.mem_singleton.mp w))]
    rintro H1 ⟨s1, kvs, hD1, kl, kv⟩
    rw [show (iv r).length = r.length from List.length_map _, List.take_of_length_le (Nat.le_refl _)] at kv
    have s1 := s1.trans (del_sub (H := H1) (p := D1))
    have DI1 := DI.same s1
    have hx1 := s1 _ _ hx
    have hr1' := s1 _ _ hr0
    have fD1 : H D1 = none := nD1
    clear nD1
    -- CUT2
    -- the corners
    refine ⟨_, rfl, r0, rfl, ⟨_, SqL.of hr1'⟩, fun D2 nD2 => ?_⟩
    refine lc_it (walk_list (K := K) (a := r0) (xs := iv r)) (fun i H' => Same H1 (del H' D2) ∧ H' D2 = some (.lst ((rC cs.length (r.take i)).map fun p => V.str (cornAt cs p)))) ⟨same_del' nD2, upd_same⟩ (fun i H' _ h => SqL.of (del_sub _ _ (h.1 _ _ hr1'))) ?_ ?_
    · rintro i xv H3 H4 hi ⟨s3, hD3⟩ ⟨rfl, hxv⟩
      have hi2 : i < r.length := by
        rwa [show (iv r).length = r.length from List.length_map _] at hi
      obtain ⟨p, hp⟩ : ∃ p, r[i]? = some p := ⟨_, List.getElem?_eq_getElem hi2⟩
      have hv2 : (iv r)[i]? = some (V.int (p : Nat)) := by
        unfold iv
        rw [List.getElem?_map, hp]
        rfl
      rw [hv2] at hxv
      injection hxv with hxv
      subst hxv
      have z3 := s3.trans (del_sub (H := H4) (p := D2))
      have e0 := snocF (p := fun p => decide (p < cs.length)) hp
      have lf : ((r.take i).filter fun p => decide (p < cs.length)).length ≤ 12 := Nat.le_trans (List.length_filter_le _ _) (by rw [List.length_take]; omega)
      refine ⟨rfl, ?_⟩
      refine ⟨_, rfl, _, rfl, _, _, rfl, rfl, _, rfl, ?_⟩
      refine ite2 (fun cc => ?_) (fun cc => ?_)
      · have pm : p < cs.length := by
          have := of_decide_eq_true cc
          omega
        refine ⟨_, rfl, x, D, dx, _, _, rfl, z3 _ _ hx1, TD.cl, TD.nC, df_corners _ _ _ _, _, rfl, l1, _, (p : Nat), .str (cornAt cs p), rfl, rfl, SqL.of (z3 _ _ DI1.hc), atI_nat (by rw [List.getElem?_map, cornAt_of pm]; rfl), _, hD3, small1000 (by rw [List.length_map]; unfold rC; omega), s3.trans del_upd_same, ?_⟩
        rw [upd_same]
        unfold rC
        rw [e0, if_pos (decide_eq_true pm), List.map_append]
        rfl
      · have pm : ¬ p < cs.length := fun z => cc (decide_eq_true (by omega))
        refine ⟨s3, ?_⟩
        unfold rC
        rw [e0, if_neg (by rw [decide_eq_false pm]; decide)]
        exact hD3
    rintro H2 ⟨s2, hD2⟩
    rw [show (iv r).length = r.length from List.length_map _, List.take_of_length_le (Nat.le_refl _)] at hD2
    have eC : (rC cs.length r).map (fun p => V.str (cornAt cs p)) = (pC cs r).map V.str := by
      unfold pC
      rw [List.map_map]
      rfl
    rw [eC] at hD2
    have s2 := s2.trans (del_sub (H := H2) (p := D2))
    have s02 := s1.trans s2
    have DI2 := DI.same s02
    have hx2 := s02 _ _ hx
    have hr2' := s02 _ _ hr0
    have hD12 := s2 _ _ hD1
    have fD2 : H D2 = none := s1.free nD2
    clear hD1 nD2 eC
    -- the legs
    refine ⟨_, rfl, r0, rfl, ⟨_, SqL.of hr2'⟩, fun D3 nD3 => ?_⟩
    have gl : gs.length = lg.length := by
      obtain ⟨gv, eg, lgv, rg⟩ := dt_list DI.dg
      rw [DI.hg] at eg
      injection eg with eg
      injection eg with eg
      subst eg
      rw [rg.len, List.length_map]
    refine lc_it (walk_list (K := K) (a := r0) (xs := iv r)) (fun i H' => Same H2 (del H' D3) ∧ H' D3 = some (.lst ((rL cs.length (r.take i)).map fun p => (gs[p - cs.length]?).getD .non))) ⟨same_del' nD3, upd_same⟩ (fun i H' _ h => SqL.of (del_sub _ _ (h.1 _ _ hr2'))) ?_ ?_
    · rintro i xv H4 H5 hi ⟨s3, hD3⟩ ⟨rfl, hxv⟩
      have hi2 : i < r.length := by
        rwa [show (iv r).length = r.length from List.length_map _] at hi
      obtain ⟨p, hp⟩ : ∃ p, r[i]? = some p := ⟨_, List.getElem?_eq_getElem hi2⟩
      have pn := lt p (List.mem_of_getElem? hp)
      have hv2 : (iv r)[i]? = some (V.int (p : Nat)) := by
        unfold iv
        rw [List.getElem?_map, hp]
        rfl
      rw [hv2] at hxv
      injection hxv with hxv
      subst hxv
      have z3 := s3.trans (del_sub (H := H5) (p := D3))
      have e0 := snocF (p := fun p => decide (cs.length ≤ p)) hp
      have lf : ((r.take i).filter fun p => decide (cs.length ≤ p)).length ≤ 12 := Nat.le_trans (List.length_filter_le _ _) (by rw [List.length_take]; omega)
      refine ⟨rfl, ?_⟩
      refine ⟨_, rfl, _, rfl, _, _, rfl, rfl, _, rfl, ?_⟩
      refine ite2 (fun cc => ?_) (fun cc => ?_)
      · have pm : cs.length ≤ p := by
          have := of_decide_eq_true cc
          omega
        have hg : gs[p - cs.length]? = some ((gs[p - cs.length]?).getD .non) := by
          rw [List.getElem?_eq_getElem (show p - cs.length < gs.length by omega)]
          rfl
        refine ⟨_, rfl, x, D, dx, _, _, rfl, z3 _ _ hx2, TD.cl, TD.nL, df_legs _ _ _ _, _, rfl, _, rfl, _, _, rfl, rfl, l2, gs, ((p - cs.length : Nat) : Int), (gs[p - cs.length]?).getD .non, rfl, congrArg V.int (by omega), SqL.of (z3 _ _ DI2.hg), atI_nat hg, _, hD3, small1000 (by rw [List.length_map]; unfold rL; omega), s3.trans del_upd_same, ?_⟩
        rw [upd_same]
        unfold rL
        rw [e0, if_pos (decide_eq_true pm), List.map_append]
        rfl
      · have pm : ¬ cs.length ≤ p := fun z => cc (decide_eq_true (by omega))
        refine ⟨s3, ?_⟩
        unfold rL
        rw [e0, if_neg (by rw [decide_eq_false pm]; decide)]
        exact hD3
    rintro H3 ⟨s3, hD3⟩
    rw [show (iv r).length = r.length from List.length_map _, List.take_of_length_le (Nat.le_refl _)] at hD3
    have s3 := s3.trans (del_sub (H := H3) (p := D3))
    have s03 := s02.trans s3
    have DI3 := DI.same s03
    have hx3 := s03 _ _ hx
    have hD13 := s3 _ _ hD12
    have hD23 := s3 _ _ hD2
    have fD3 : H D3 = none := s02.free nD3
    clear hD12 hD2 nD3
    -- the joins
    refine ⟨_, rfl, x, D, dx, _, _, rfl, hx3, TD.cl, TD.nJ, df_joins _ _ _ _, l3, rfl, ⟨_, SqL.of DI3.hl⟩, fun D4 nD4 => ?_⟩
    refine lc_it (walk_list (K := K) (a := l3) (xs := ws)) (fun i H' => Same H3 (del H' D4) ∧ ∃ wf, H' D4 = some (.lst wf) ∧ JoinsAt H3 wf (pS r (js.take i))) ⟨same_del' nD4, [], upd_same, .nil⟩ (fun i H' _ h => SqL.of (del_sub _ _ (h.1 _ _ DI3.hl))) ?_ ?_
    · rintro i xv H4 H5 hi ⟨s4, wf, hD4, jvf⟩ ⟨rfl, hxv⟩
      obtain ⟨j, tj, hj, rfl, tq⟩ := joins_at5 DI3.ja hxv
      have z4 := s4.trans (del_sub (H := H5) (p := D4))
      have e0 := snocF (p := fun j => decide (j.1.1 ∈ r)) hj
      have lwf : wf.length ≤ 80 := by
        rw [jvf.len]
        unfold pS
        refine Nat.le_trans (List.length_filter_le _ _) ?_
        rw [List.length_take]
        omega
      refine ⟨rfl, ?_⟩
      refine ⟨_, rfl, tj, _, 0, _, rfl, rfl, (tq.same z4).sq, ix0, _, rfl, D1, _, rfl, DGet.k (k := Sum.inl ((j.1.1 : Nat) : Int)) (z4 _ _ hD13), _, rfl, ?_⟩
      rw [kv j.1.1]
      by_cases c : j.1.1 ∈ r
      · rw [if_pos c]
        refine ⟨_, rfl, _, hD4, small1000 (by omega), s4.trans del_upd_same, _, upd_same, ?_⟩
        unfold pS
        rw [e0, if_pos (decide_eq_true c)]
        exact jvf.app (.cons ⟨tj, rfl, tq⟩ .nil)
      · rw [if_neg c]
        refine ⟨s4, wf, hD4, ?_⟩
        unfold pS
        rw [e0, if_neg (by rw [decide_eq_false c]; decide)]
        exact jvf
    rintro H4 ⟨s4, wf, hD4, jvf⟩
    rw [lw, List.take_of_length_le (Nat.le_refl _)] at jvf
    have s4 := s4.trans (del_sub (H := H4) (p := D4))
    have s04 := s03.trans s4
    have DI4 := DI.same s04
    have hx4 := s04 _ _ hx
    have hD14 := s4 _ _ hD13
    have hD24 := s4 _ _ hD23
    have hD34 := s4 _ _ hD3
    have jv4 := jvf.same s4
    clear hD13 hD23 hD3 jvf
    -- CUT3
    -- it is made
    have sub : ∀ j ∈ pS r js, j ∈ js := fun j hj => (List.mem_filter.mp hj).1
    refine ⟨_, rfl, x, D, dx, _, _, rfl, hx4, TD.cl, TD.nS, df_stock _ _ _ _, _, rfl, _, rfl, _, rfl, _, rfl, D4, D1, wf, pS r js, pN (cs.length + lg.length) r, kvs, rows, rfl, hD4, jv4, hD14, by
      have := List.length_filter_le (fun j : JRow => decide (j.1.1 ∈ r)) js
      unfold pS
      omega, mu, fun j hj => (DI.gj j (sub j hj)).gn, fun j hj => ?_, fun u ws' H5 nu s5 hu5 jv5 => ?_⟩
    · have jr : j.1.1 ∈ r := of_decide_eq_true (List.mem_filter.mp (show j ∈ js.filter _ from hj)).2
      have jr2 := (cl j (sub j hj)).mp jr
      obtain ⟨q1, q2⟩ := plc j (sub j hj)
      rw [kv, kv, if_pos jr, if_pos jr2, pN_at r q1, pN_at r q2]
      exact ⟨rfl, rfl⟩
    have s5 := s5.trans (del_sub (H := H5) (p := u))
    have jv5 := jv5.same (del_sub (H := H5) (p := u))
    have s05 := s04.trans s5
    have DI5 := DI.same s05
    obtain ⟨gv, eg, lgv, rgb⟩ := dt_list DIb.dg
    have e1 := DIb.hg
    rw [eg] at e1
    injection e1 with e1
    injection e1 with e1
    subst e1
    have rg := rgb.same (sb.trans s05)
    have hD35 := s5 _ _ hD34
    have hD25 := s5 _ _ hD24
    have LG := legsg_of DI.lok
    have PL := part_legs LG pw lt
    obtain ⟨g1, g3, gnm, gnd, gmu⟩ := good_rows gd
    have rn : ∀ y ∈ rows.map (·.1), nameS y = true := fun y hy => by
      obtain ⟨rr, hrr, rfl⟩ := List.mem_map.mp hy
      exact (gnm rr hrr).1
    have hcs' : ∀ y ∈ pC cs r, y ∈ ks.map (·.1) := fun y hy => DI.hcs y (pC_mem y hy)
    obtain ⟨q1, q2, q3⟩ := part_joins (rows := rows) pw lt cl DI.perm DI.gj mu gk hcs'
    have memL : ∀ p ∈ rL cs.length r, p - cs.length < lg.length := fun p hp => by
      obtain ⟨a1, b1⟩ := List.mem_filter.mp hp
      have := of_decide_eq_true b1
      have := lt p a1
      omega
    have dl := dt_pick rg cs.length (rL cs.length r) memL
    have nam : ∀ e ∈ allE ks (pC cs r) (pL cs lg r), nameS e.2 = true := fun e he => by
      rw [← part_all pw lt] at he
      obtain ⟨e0, h0, rfl⟩ := List.mem_map.mp he
      exact DI.nam e0 (List.mem_filter.mp h0).1
    have lJ : ws'.length ≤ 40 := by
      rw [jv5.len]
      unfold movedJ sortJ
      rw [List.length_mergeSort, List.length_map]
      have := List.length_filter_le (fun j : JRow => decide (j.1.1 ∈ r)) js
      unfold pS
      omega
    have lL : (rL cs.length r).length ≤ 12 := Nat.le_trans (List.length_filter_le _ _) rl12
    have DN : DrawIn C H5 a D2 D3 u rows ks (pC cs r) (pL cs lg r) ((rL cs.length r).map fun p => (gv[p - cs.length]?).getD .non) ws' (pJ (cs.length + lg.length) r js) :=
      ⟨DI5.sg, DI.k5, hD25, Nat.le_trans (pC_le pw) l6, hcs', fun y hy => DI.ncs y (pC_mem y hy), hD35, .lst hD35 (by rw [List.length_map]; omega) dl, legs_ok PL rn, PL.l6, nam, hu5, lJ, jv5, q1, q2, q3⟩
    refine fun z dz nz ndz nez => make_drw nz ndz nez DN fun HF dn sF => ⟨rfl, k z ((rL cs.length r).map fun p => (gv[p - cs.length]?).getD .non) ws' HF (s05.free nz) (s05.trans sF) fun HX oX => ?_⟩
    have hq5 := s05 _ _ hq0
    have hqF := sF _ _ hq5
    have nq : ∀ {b : Addr}, H5 b = none → b ≠ q0 := fun n zz => by
      rw [zz, hq5] at n
      cases n
    have sX : Same Hb HX := fun b o e => oX _ _ (sF _ _ (s05 _ _ (sb _ _ e))) fun zz => by
      rw [zz, nb] at e
      cases e
    obtain ⟨dx', m1, m2, m3, n0, n1, n2, n3, e0, e1, e2, e3⟩ := dn
    have h2 := oX _ _ e2 (nq n2)
    exact ⟨dx', m1, m2, m3, oX _ _ e0 (nq n0), DIb.sg.same sX, DI.k5, oX _ _ e1 (nq n1), Nat.le_trans (pC_le pw) l6, hcs', fun y hy => DI.ncs y (pC_mem y hy), h2, .lst h2 (by rw [List.length_map]; omega) (dt_pick (rgb.same sX) cs.length (rL cs.length r) memL), legs_ok PL rn, PL.l6, nam, oX _ _ e3 (nq n3), lJ, (jv5.same sF).offL oX hqF, q1, q2, q3⟩
-- CUT4
abbrev psN : List Str := ["drawing", "places"]
theorem scParts : FnScope psN ["drawing"] (defScope sParts) := ⟨rfl, rfl, rfl, by decide +kernel, rfl, by decide +kernel, by decide +kernel⟩
theorem ok_parts {f fPT fMP fHG C D : Addr} {fd fdPT fdMP fdHG : FuncData} (F : Fun K "parts" "parts" sParts f fd) (M : Mods mg) (TD : DrC K mg D)
    (GPT : FnOk P w K mg base (L2.CX P w) 7 fPT fdPT ["drawing", "places"] (spPart C D)) (kPT : PySem.W.keepIn K (.ref fPT) = true) (bPT : Binds K fdPT ["drawing", "places"] []) (gPT : mg "_part" = some (.ref fPT))
    (GMP : FnOk P w K mg base CX0 1 fMP fdMP ["drawing"] (spManyPl C D)) (kMP : PySem.W.keepIn K (.ref fMP) = true) (bMP : Binds K fdMP ["drawing"] []) (gMP : mg "_many_places" = some (.ref fMP))
    (GHG : FnOk P w K mg base CX0 1 fHG fdHG ["many", "joins"] spHang) (kHG : PySem.W.keepIn K (.ref fHG) = true) (bHG : Binds K fdHG ["many", "joins"] []) (gHG : mg "hanging" = some (.ref fHG)) :
    FnOk P w K mg base (L2.CX P w) 8 f fd ["drawing"] (spParts C D) := by
  refine F.okX scParts (fun vs H Q E h => ?_) (fun cdv A outer s H vs Q E hr h => ?_)
  · obtain ⟨x, a, rows, ks, cs, lg, gs, ws, js, rfl, _⟩ := h
    rfl
  · obtain ⟨x, a, rows, ks, cs, lg, gs, ws, js, rfl, dg, gd, gk, mu, k⟩ := h
    have hr1 : Room 1 (A.deeper (envOfC "parts" (defScope sParts) s.heap.objs.size f cdv)) := hr.mono (by decide)
    refine ⟨_, (pss_one (ps_ret (pe_lc (own := [("places", 1)]) (g := gName 1) (tt := tYes) (te := (tCallS (spPart C D) noE (tCons (tVar 0) (tCons (tVar 1) tNil)))) rfl scParts.nd (pi_list (pe_call GHG hr1 (by rfl) gHG kHG bHG .nil pass0 (pa_cons (pe_call GMP hr1 (by rfl) gMP kMP bMP .nil pass0 (pa_cons (pv 0) pa_nil)) (pa_cons (pe_fld (pv 0) rfl) pa_nil)))) (blkOk_by (N := psN) (sc := defScope sParts) (by decide +kernel)) (fun _ _ _ _ _ => pg_name (i := 1) scParts.nd rfl (Or.inl rfl)) (fun _ _ _ _ _ => pts_nil) (fun _ _ _ _ _ => (by exact (pe_callS (E := noE) GPT hr (by rfl) gPT kPT bPT (fun σ => passN σ) (pa_cons (pv 0) (pa_cons (pv 1) pa_nil)))))))), ?_⟩
    obtain ⟨dx, l1, l2, l3, hx, DI⟩ := id dg
    have plc := DI.places
    have l6 := DI.l6
    have lg6 := DI.lg6
    have l18 := DI.le18
    refine ⟨_, rfl, x, a, rows, ks, cs, lg, gs, ws, js, rfl, dg, ?_⟩
    refine ⟨_, rfl, x, D, dx, _, _, rfl, hx, TD.cl, TD.nJ, df_joins _ _ _ _, cs.length + lg.length, l3, ws, js, rfl, DI.hl, DI.ja, plc, by omega, by omega, fun q0 ps H1 s1 hq0 rw0 nq0 np0 nd0 => ?_⟩
    have lps : ps.length = (comps (cs.length + lg.length) (edges js)).length := (show Paired _ ps _ from rw0).length
    have lcp : (comps (cs.length + lg.length) (edges js)).length ≤ 12 := by
      have := (rows_len (marks (edges js)) (cs.length + lg.length) (List.range (cs.length + lg.length)) (by rw [List.length_range]; exact Nat.le_refl _)).1
      rw [List.length_range] at this
      unfold comps
      omega
    refine ⟨q0, rfl, ⟨_, SqL.of hq0⟩, fun D2 nD2 => ?_⟩
    refine lc_it (walk_list (K := K) (a := q0) (xs := ps.map V.ref)) (fun i H' => Same H1 (del H' D2) ∧ ∃ zs : List Addr, H' D2 = some (.lst (zs.map V.ref)) ∧ PartsAt C D (del H' D2) a rows ks cs lg js zs ((comps (cs.length + lg.length) (edges js)).take i)) ⟨same_del' nD2, [], upd_same, .nil⟩ (fun i H' _ h => SqL.of (del_sub _ _ (h.1 _ _ hq0))) ?_ ?_
    · rintro i xv H3 H4 hi ⟨s3, zs, hD3, pa⟩ ⟨rfl, hxv⟩
      rw [List.getElem?_map] at hxv
      obtain ⟨p, hp, rfl⟩ := Option.map_eq_some_iff.mp hxv
      obtain ⟨r, hr', hpr⟩ := paired_at (show Paired _ ps _ from rw0) hp
      have rm := List.mem_of_getElem? hr'
      obtain ⟨f1, f2, f3⟩ := comps_facts plc rm
      have z3 := s3.trans (del_sub (H := H4) (p := D2))
      have s03 := s1.trans z3
      refine ⟨rfl, ?_⟩
      delta tYes
      dsimp only
      rw [if_pos rfl]
      refine ⟨_, rfl, _, rfl, x, a, p, rows, ks, cs, lg, gs, ws, js, r, H1, D2, zs.map V.ref, rfl, z3, nD2, hD3, dg.same s1, gd, gk, mu, z3 _ _ hpr, f1, f2, f3, fun z gs' ws' H5 nz s5 dz => ?_⟩
      have hD5 := s5 _ _ hD3
      have s35 := s3.trans (same_del (l := D2) s5)
      have lz := (show Paired _ zs _ from pa).length
      rw [List.length_take] at lz
      refine ⟨_, hD5, small1000 (by rw [List.length_map]; omega), s35.trans del_upd_same, zs ++ [z], by rw [upd_same, List.map_append]; rfl, ?_⟩
      rw [take_snoc hr']
      refine paired_app (PartsAt.same (PartsAt.same pa (same_del (l := D2) s5)) del_upd_same) (.cons ⟨gs', ws', dz _ fun b o e nb => ?_⟩ .nil)
      rw [del_ne nb, upd_ne nb]
      exact e
    · rintro H3 ⟨s3, zs, hD3, pa⟩
      rw [List.length_map, lps, List.take_of_length_le (Nat.le_refl _)] at pa
      have z3 := s3.trans (del_sub (H := H3) (p := D2))
      exact k D2 zs H3 (s1.free nD2) (s1.trans z3) hD3 (pa.same del_sub)
end
end Toy
set_option Elab.async false
set_option linter.all false
set_option maxRecDepth 100000
set_option maxHeartbeats 2000000
namespace L2
open PySem PySem.Spec PyProof.Rows Toy
/-- l.remove(x) of data: the first equal one goes -/
def rRemD (K : PySem.W.Frag) : V → List V → Hp → VK → Prop := fun x xs H Q => ∃ (l : Addr) (ws : List V) (y : V) (d : PyData) (ds : List PyData) (j : Nat), x = .ref l ∧ xs = [y] ∧ H l = some (.lst ws) ∧ DpAll K H ws ds ∧ Dp K H y d ∧
  PyData.plainAll ds = true ∧ d.plain = true ∧ d.depth ≤ 60 ∧ SeqAt.dataPlace ds d = some j ∧ Q .non (upd H l (.lst (ws.eraseIdx j)))
theorem mt_removeD {X : Cx} (hu : X.A.units + 65 < cLine) : MtM X "list.remove" (rRemD X.K) := by
  intro pins s σ H x xs v us Q I rx rxs h
  obtain ⟨l, ws, y, d, ds, j, rfl, rfl, hH, hw, hy, p1, p2, dd, hj, q⟩ := h
  cases rx
  obtain ⟨u, rfl, ru⟩ := rxs.one
  obtain ⟨z, its, n, r, hl, e⟩ := I.lstM hH
  obtain ⟨bs, r1⟩ := Dp.reads I d y u hy ru
  obtain ⟨as, r2⟩ := Dp.readsAll I ds ws its hw r
  have hm : min (PyData.depthAll ds) d.depth ≤ 60 := Nat.le_trans (Nat.min_le_right _ _) dd
  refine SeqAt.remove_list_data (vs := its.toArray) (l := l) (j := j) ⟨_, e, rfl, n, rfl⟩ (by simpa using r2) r1 p1 p2 (by omega) hj (by rw [List.size_toArray]; omega) ?_
  refine ⟨.non, _, I.lset (its' := its.eraseIdx j) (t' := s.toks) hH e ?_ (r.eraseIdx j) ?_, rfl, q⟩
  · show its.toArray.eraseIdxIfInBounds j = (its.eraseIdx j).toArray
    rw [List.eraseIdxIfInBounds_toArray]
  · have z2 := List.length_eraseIdx_le ws j
    omega
end L2
set_option Elab.async false
set_option linter.all false
set_option maxRecDepth 100000
set_option maxHeartbeats 4000000
namespace Toy
open PySem PySem.Spec PyProof.Rows L2
def cutLegs (lg : Rows2) (j : JRow) (n1 n2 : Str) : Rows2 := sortR (lg ++ [(n1, j.2.2), (n2, j.1.2)])
def cutJ (m : Nat) (lg : Rows2) (js : List JRow) (j : JRow) (n1 n2 : Str) : List JRow := sortJ (cutL (js.erase j) (bsP 0 m m (cutLegs lg j n1 n2) lg) m (cutLegs lg j n1 n2) j (n1, j.2.2) (n2, j.1.2))
def spCut (C D : Addr) : Sp := fun vs H Q _ => ∃ (x a t nt : Addr) (rows : Rows2) (ks : List KRow) (cs : List Str) (lg : Rows2) (gs ws : List V) (js : List JRow) (j : JRow) (n1 n2 : Str), vs = [.ref x, .ref t, .ref nt] ∧ DrG C D H x a rows ks cs lg gs ws js ∧ GoodS rows ∧ GoodK (rows.map (·.1)) ks ∧ Mut rows ∧ LegsG rows lg ∧
  TupAt H t (joinV j) ∧ j ∈ js ∧ j.2.1 < cs.length ∧ TupAt H nt [.str n1, .str n2] ∧ nameS n1 = true ∧ nameS n2 = true ∧ n1 ≠ n2 ∧ n1 ∉ lg.map (·.1) ∧ n2 ∉ lg.map (·.1) ∧ lg.length + 2 ≤ 6 ∧
  ∀ (z : Addr) (gs' ws' : List V) (H' : Hp), H z = none → DrG C D H' z a rows ks cs (cutLegs lg j n1 n2) gs' ws' (cutJ cs.length lg js j n1 n2) → Same H H' → Q (.ref z) H'
theorem eqv_join (a b : JRow) : PyData.eqv (joinT a) (joinT b) = decide (a = b) := by
  show (PyData.eqv (.int _) (.int _) && (PyData.eqv (.str _) (.str _) && (PyData.eqv (.int _) (.int _) && (PyData.eqv (.str _) (.str _) && true)))) = _
  rw [eqvI, eqvS, eqvI, eqvS, Bool.and_true, Bool.eq_iff_iff]
  simp only [Bool.and_eq_true, decide_eq_true_eq]
  constructor
  · rintro ⟨h1, h2, h3, h4⟩
    exact Prod.ext (Prod.ext (by omega) h2) (Prod.ext (by omega) h4)
  · rintro rfl
    exact ⟨rfl, rfl, rfl, rfl⟩
theorem place_join {js : List JRow} {j : JRow} (h : j ∈ js) : PySem.SeqAt.dataPlace (js.map joinT) (joinT j) = some (js.idxOf j) := by
  unfold PySem.SeqAt.dataPlace
  have l := List.idxOf_lt_length_of_mem h
  rw [List.findIdx?_eq_some_iff_getElem]
  refine ⟨by rw [List.length_map]; exact l, ?_, fun m hm => ?_⟩
  · rw [List.getElem_map, List.getElem_idxOf l, eqv_join]
    exact decide_eq_true rfl
  · rw [List.getElem_map, eqv_join]
    have := List.not_of_lt_findIdx (p := (· == j)) (xs := js) hm
    simpa using this
theorem plain_joins : ∀ js : List JRow, PyData.plainAll (js.map joinT) = true
  | [] => rfl
  | j :: js => by
    show ((joinT j).plain && PyData.plainAll (js.map joinT)) = true
    rw [plain_joins js]
    rfl
theorem paired_erase {α β : Type} {F : α → β → Prop} : ∀ {xs : List α} {ys : List β} (i : Nat), Paired F xs ys → Paired F (xs.eraseIdx i) (ys.eraseIdx i)
  | _, _, _, .nil => .nil
  | _, _, 0, .cons _ t => t
  | _, _, i + 1, .cons h t => .cons h (paired_erase i t)
theorem among_all {m : Nat} {lg legs : Rows2} (sub : ∀ z ∈ lg, z ∈ legs) : (intsV (List.range m) ++ lg.map fun z => if z ∈ legs then V.int ((m + legs.idxOf z : Nat) : Int) else .non) = intsV (bsP 0 m m legs lg) := by
  unfold intsV bsP
  rw [List.map_append, List.map_map, List.map_map]
  congr 1
  · refine List.map_congr_left fun i _ => ?_
    show V.int (i : Nat) = V.int ((0 + i : Nat) : Int)
    rw [Nat.zero_add]
  · refine List.map_congr_left fun z hz => ?_
    rw [if_pos (sub z hz)]
    rfl
/-- the place of a leg among others -/
theorem index_row {K : PySem.W.Frag} {H : Hp} {Q : VK} {g : Addr} {v : V} {legs : Rows2} {z : Str × Str} (hg : Dt H (.ref g) (.list (legs.map rowT))) (hz : Dt H v (rowT z)) (h : z ∈ legs) (nd : legs.Nodup) (q : Q (.int (legs.idxOf z : Nat)) H) : rIndexD K (.ref g) [v] H Q := by
  have hidx : legs[legs.idxOf z]? = some z := by
    have l := List.idxOf_lt_length_of_mem h
    rw [List.getElem?_eq_getElem l]
    exact congrArg some (List.getElem_idxOf l)
  refine ⟨g, _, rowT z, legs.map rowT, legs.idxOf z, rowT z, rfl, rfl, hg.dp (low_rows legs).nd, hz.dp (low_row20 z).nd, shape_of hg (low_rows legs), shape_of hz (low_row20 z), by rw [List.getElem?_map, hidx]; rfl, by rw [eqv_row, decide_eq_true rfl], fun m z2 hm hz2 => ?_, q⟩
  rw [List.getElem?_map] at hz2
  cases e : legs[m]? with
  | none =>
    rw [e] at hz2
    cases hz2
  | some y2 =>
    rw [e] at hz2
    cases hz2
    rw [eqv_row]
    refine decide_eq_false fun q => ?_
    subst q
    obtain ⟨l, e2⟩ := List.getElem?_eq_some_iff.mp e
    have q2 := nd.idxOf_getElem m l
    rw [e2] at q2
    omega
section
variable {P : Program} {w : World} {K : PySem.W.Frag} {mg : Str → Option Value} {base : Heap}
abbrev cuN : List Str := ["drawing", "join", "names", "first", "second", "added", "legs", "left", "joins", "end", "leg"]
theorem scCut : FnScope cuN ["drawing", "join", "names"] (defScope sCut) := ⟨rfl, rfl, rfl, by decide +kernel, rfl, by decide +kernel, by decide +kernel⟩
theorem ok_cut {f fI fH fW fV fA C D CN fX CJ CM CT : Addr} {fd fdI fdH fdW fdV fdA : FuncData} {bm : List Value} {B newId initId : String} (F : Fun K "cut" "cut" sCut f fd) (M : Mods mg) (T : StkC K mg C CN fX) (TD : DrC K mg D) (makD : Mk K D fI) (NF : ExcBaseFacts B newId initId bm)
    (NXJ : NoPaC K CJ bm newId) (gxJ : mg "NoJoin" = some (.ref CJ)) (NXN : NoPaC K CM bm newId) (gxN : mg "NoName" = some (.ref CM)) (NXT : NoPaC K CT bm newId) (gxT : mg "TooMany" = some (.ref CT)) (hml : ∃ t, mg "MOST_LEGS" = some (.int 6 t))
    (GH : FnOk P w K mg base CX0 3 fH fdH ["drawing", "join"] (spHasInner C D)) (kH : PySem.W.keepIn K (.ref fH) = true) (bH : Binds K fdH ["drawing", "join"] []) (gH : mg "_has_inner" = some (.ref fH))
    (GW : FnOk P w K mg base CX0 2 fW fdW ["drawing", "names"] (spNewNames C D)) (kW : PySem.W.keepIn K (.ref fW) = true) (bW : Binds K fdW ["drawing", "names"] []) (gW : mg "_are_new_names" = some (.ref fW))
    (GV : FnOk P w K mg base CX0 1 fV fdV ["joins", "places"] spPMoved) (kV : PySem.W.keepIn K (.ref fV) = true) (bV : Binds K fdV ["joins", "places"] []) (gV : mg "moved" = some (.ref fV))
    (GA : FnOk P w K mg base CX0 1 fA fdA ["drawing", "legs"] (spAmong C D)) (kA : PySem.W.keepIn K (.ref fA) = true) (bA : Binds K fdA ["drawing", "legs"] []) (gA : mg "_places_among" = some (.ref fA))
    (GI : FnOk P w K mg base (L2.CX P w) 5 fI fdI ["self", "stock", "corners", "legs", "joins"] (spDInit C D)) (bI : Binds K fdI ["self", "stock", "corners", "legs", "joins"] []) (mZip : mg "zip" = none) :
    FnOk P w K mg base (L2.CX P w) 7 f fd ["drawing", "join", "names"] (spCut C D) := by
  obtain ⟨tl, hml⟩ := hml
  refine F.okX scCut (fun vs H Q E h => ?_) (fun cdv A outer s H vs Q E hr h => ?_)
  · obtain ⟨x, a, t, nt, rows, ks, cs, lg, gs, ws, js, j, n1, n2, rfl, _⟩ := h
    rfl
  · obtain ⟨x, a, t, nt, rows, ks, cs, lg, gs, ws, js, j, n1, n2, rfl, dg, gd, gk, mu, LG, tq, hj, hin, tn, m1, m2, nn, u1, u2, l6, k⟩ := h
    have hr1 : Room 1 _ := hr.mono (by decide)
    have hr2 : Room 2 _ := hr.mono (by decide)
    have hr3 : Room 3 _ := hr.mono (by decide)
    have hu65 : (A.deeper (envOfC "cut" (defScope sCut) s.heap.objs.size f cdv)).units + 65 < cLine := by
      have := hr.un
      omega
    refine ⟨_, (pss_cons (ps_if (pt_not (pt_val (pe_call GH hr3 (by rfl) gH kH bH .nil pass0 (pa_cons (pv 0) (pa_cons (pv 1) pa_nil))))) (pss_one (ps_raise rfl (takes_of rfl rfl rfl rfl) (pmk_own NF NXJ.ex gxJ NXJ.kp (raises_own NXJ.sb NXJ.ty) (by rfl)))) pss_nil)
      (pss_cons (ps_if (pt_not (pt_val (pe_call GW hr2 (by rfl) gW kW bW .nil pass0 (pa_cons (pv 0) (pa_cons (pv 2) pa_nil))))) (pss_one (ps_raise rfl (takes_of rfl rfl rfl rfl) (pmk_own NF NXN.ex gxN NXN.kp (raises_own NXN.sb NXN.ty) (by rfl)))) pss_nil)
      (pss_cons (ps_if (pt_cmpR op_gt (pe_op op_add (pe_callB call_len_seq (by rfl) M.len PySem.boot_len (pa_cons (pe_fld (pv 0) rfl) pa_nil)) pe_int) (pe_glob (v := .int 6) (by rfl) hml ⟨_, rfl⟩) (nomark _)) (pss_one (ps_raise rfl (takes_of rfl rfl rfl rfl) (pmk_own NF NXT.ex gxT NXT.kp (raises_own NXT.sb NXT.ty) (by rfl)))) pss_nil)
      (pss_cons (ps_par (i := 3) (j := 4) rfl scCut.nd rfl rfl (by decide) rfl rfl (pa_cons (pe_slice sl_tup (pv 1) po_none (po_some pe_int)) (pa_cons (pe_slice sl_tup (pv 1) (po_some pe_int) po_none) pa_nil)) rfl)
      (pss_cons (ps_set (i := 5) scCut.nd rfl (Or.inl rfl) (pe_lst (pa_cons (pe_tup (pa_cons (pe_ix ix_tup (pv 2) pe_int (fun _ _ => rfl)) (pa_cons (pe_ix ix_tup (pv 4) pe_int (fun _ _ => rfl)) pa_nil))) (pa_cons (pe_tup (pa_cons (pe_ix ix_tup (pv 2) pe_int (fun _ _ => rfl)) (pa_cons (pe_ix ix_tup (pv 3) pe_int (fun _ _ => rfl)) pa_nil))) pa_nil))))
      (pss_cons (ps_set (i := 6) scCut.nd rfl (Or.inl rfl) (pe_callB (cr_sortD hr.units) (by rfl) M.srt (by decide +kernel) (pa_cons (pe_op op_cat (pe_fld (pv 0) rfl) (pv 5)) pa_nil)))
      (pss_cons (ps_set (i := 7) scCut.nd rfl (Or.inl rfl) (pe_callTy call_list_of (by rfl) M.lst_ (by decide +kernel) (pa_cons (pe_fld (pv 0) rfl) pa_nil)))
      (pss_cons (ps_expr (pe_bm PySem.F.plainAttrs_list PySem.F.slot_list_remove PySem.F.type_list_remove (mt_removeD hu65) (pv 7) (pa_cons (pv 1) pa_nil)))
      (pss_cons (ps_set (i := 8) scCut.nd rfl (Or.inl rfl) (pe_call GV hr1 (by rfl) gV kV bV .nil pass0 (pa_cons (pv 7) (pa_cons (pe_call GA hr1 (by rfl) gA kA bA .nil pass0 (pa_cons (pv 0) (pa_cons (pv 6) pa_nil))) pa_nil))))
      (pss_cons (ps_for (passes_of rfl) rfl (pi_zip (by rfl) mZip (pa_cons (pe_lst (pa_cons (pv 3) (pa_cons (pv 4) pa_nil))) (pa_cons (pv 5) pa_nil))) (pg_tup rfl (pgs_cons (pg_name (i := 9) scCut.nd rfl (Or.inl rfl)) (pgs_cons (pg_name (i := 10) scCut.nd rfl (Or.inl rfl)) pgs_nil))) (pss_one (ps_expr (pe_bm PySem.F.plainAttrs_list PySem.F.slot_list_append PySem.F.type_list_append mt_append (pv 8) (pa_cons (pe_op op_catT (pv 9) (pe_tup (pa_cons (pe_op op_add (pe_callB call_len_seq (by rfl) M.len PySem.boot_len (pa_cons (pe_fld (pv 0) rfl) pa_nil)) (pe_bm PySem.F.plainAttrs_list PySem.F.slot_list_index PySem.F.type_list_index (mt_indexD hu65) (pv 6) (pa_cons (pv 10) pa_nil))) (pa_cons (pe_ix ix_tup (pv 10) pe_int (fun _ _ => rfl)) pa_nil)))) pa_nil)))))
      (pss_one (ps_ret (pe_makeS (E := noE) makD GI hr (by rfl) TD.mgD bI (fun σ => passN σ) (pa_cons (pe_fld (pv 0) rfl) (pa_cons (pe_fld (pv 0) rfl) (pa_cons (pv 6) (pa_cons (pe_callB (cr_sortD hr.units) (by rfl) M.srt (by decide +kernel) (pa_cons (pv 8) pa_nil)) pa_nil))))))))))))))))), ?_⟩
    obtain ⟨dx, l1, l2, l3, hx, DI⟩ := id dg.ob
    have gj := DI.gj j hj
    refine ⟨_, rfl, _, rfl, x, a, t, rows, ks, cs, lg, gs, ws, js, j, rfl, dg, tq, hj, fun H1 s1 => ?_⟩
    rw [decide_eq_true hin]
    refine ⟨_, rfl, ?_⟩
    dsimp only
    rw [if_neg (by decide)]
    refine ⟨_, rfl, _, rfl, x, a, nt, rows, ks, cs, lg, gs, ws, js, n1, n2, rfl, dg.same s1, LG.nd, tn.same s1, m1, m2, nn, u1, u2, fun H2 s2 => ⟨_, rfl, ?_⟩⟩
    dsimp only
    rw [if_neg (by decide)]
    have s02 := s1.trans s2
    have hx := s02 _ _ hx
    have DI := DI.same s02
    have tq := tq.same s02
    have tn := tn.same s02
    have lgl : gs.length = lg.length := by
      obtain ⟨gv, eg, _, rg⟩ := dt_list DI.dg
      rw [DI.hg] at eg
      injection eg with eg
      injection eg with eg
      subst eg
      rw [rg.len, List.length_map]
    clear s1 s2 H1
    -- room for two more
    refine ⟨_, rfl, x, D, dx, _, _, rfl, hx, TD.cl, TD.nL, df_legs _ _ _ _, l2, _, rfl, .inl (SqL.of DI.hg), _, _, rfl, rfl, _, _, rfl, rfl, _, rfl, ?_⟩
    rw [lgl, decide_eq_false (by omega)]
    dsimp only
    rw [if_neg (by decide)]
    -- both ends
    refine ⟨_, rfl, 2, rfl, t, _, rfl, tq.sq, by show ¬ (HT.sIx 4 0 none = 0 ∧ HT.sIx 4 4 (some 2) = 4); decide, fun p np => ?_⟩
    have c1 : cutV (joinV j) none (some 2) = [.int (j.1.1 : Nat), .str j.1.2] := cut_to (joinV j) 2
    rw [c1]
    have x1 := same_new (o := .tup [.int (j.1.1 : Nat), .str j.1.2]) np
    have hp : upd H2 p (.tup [.int (j.1.1 : Nat), .str j.1.2]) p = some (.tup [.int (j.1.1 : Nat), .str j.1.2]) := upd_same
    have hx := x1 _ _ hx
    have DI := DI.same x1
    have tq := tq.same x1
    have tn := tn.same x1
    have s03 := s02.trans x1
    generalize upd H2 p (.tup [.int (j.1.1 : Nat), .str j.1.2]) = H3 at x1 hp hx DI tq tn s03 ⊢
    refine ⟨_, rfl, 2, rfl, t, _, rfl, tq.sq, by show ¬ (HT.sIx 4 0 (some 2) = 0 ∧ HT.sIx 4 4 none = 4); decide, fun q nq => ?_⟩
    have c2 : cutV (joinV j) (some 2) none = [.int (j.2.1 : Nat), .str j.2.2] := cut_from (joinV j) 2 (by show 2 ≤ 4; decide)
    rw [c2]
    have x2 := same_new (o := .tup [.int (j.2.1 : Nat), .str j.2.2]) nq
    have hq : upd H3 q (.tup [.int (j.2.1 : Nat), .str j.2.2]) q = some (.tup [.int (j.2.1 : Nat), .str j.2.2]) := upd_same
    have hp := x2 _ _ hp
    have hx := x2 _ _ hx
    have DI := DI.same x2
    have tq := tq.same x2
    have tn := tn.same x2
    have s04 := s03.trans x2
    generalize upd H3 q (.tup [.int (j.2.1 : Nat), .str j.2.2]) = H4 at x2 hp hq hx DI tq tn s04 ⊢
    clear x1 x2 np nq s02 s03
    refine ⟨_, _, rfl, ?_⟩
    -- the new legs
    refine ⟨_, rfl, nt, _, 0, _, rfl, rfl, tn.sq, ix0, _, rfl, q, _, 1, _, rfl, rfl, (TupAt.of hq).sq, ix1, by show 2 ≤ sizeLine; decide, fun a1 na1 => ?_⟩
    have x5 := same_new (o := .tup [.str n1, .str j.2.2]) na1
    have ha1 : upd H4 a1 (.tup [.str n1, .str j.2.2]) a1 = some (.tup [.str n1, .str j.2.2]) := upd_same
    have s05 := s04.trans x5
    have hp := x5 _ _ hp
    have hq := x5 _ _ hq
    have hx := x5 _ _ hx
    have DI := DI.same x5
    have tq := tq.same x5
    have tn := tn.same x5
    generalize upd H4 a1 (.tup [.str n1, .str j.2.2]) = H5 at x5 ha1 hp hq hx DI tq tn s05 ⊢
    refine ⟨_, rfl, nt, _, 1, _, rfl, rfl, tn.sq, ix1, _, rfl, p, _, 1, _, rfl, rfl, (TupAt.of hp).sq, ix1, by show 2 ≤ sizeLine; decide, fun a2 na2 => ?_⟩
    have x6 := same_new (o := .tup [.str n2, .str j.1.2]) na2
    have ha2 : upd H5 a2 (.tup [.str n2, .str j.1.2]) a2 = some (.tup [.str n2, .str j.1.2]) := upd_same
    have s06 := s05.trans x6
    have ha1 := x6 _ _ ha1
    have hp := x6 _ _ hp
    have hq := x6 _ _ hq
    have hx := x6 _ _ hx
    have DI := DI.same x6
    have tq := tq.same x6
    generalize upd H5 a2 (.tup [.str n2, .str j.1.2]) = H6 at x6 ha1 ha2 hp hq hx DI tq s06 ⊢
    refine ⟨by show 2 ≤ sizeLine; decide, fun lp nlp => ?_⟩
    have x7 := same_new (o := .lst [.ref a1, .ref a2]) nlp
    have hlp : upd H6 lp (.lst [.ref a1, .ref a2]) lp = some (.lst [.ref a1, .ref a2]) := upd_same
    have s07 := s06.trans x7
    have ha1 := x7 _ _ ha1
    have ha2 := x7 _ _ ha2
    have hp := x7 _ _ hp
    have hq := x7 _ _ hq
    have hx := x7 _ _ hx
    have DI := DI.same x7
    have tq := tq.same x7
    generalize upd H6 lp (.lst [.ref a1, .ref a2]) = H7 at x7 ha1 ha2 hlp hp hq hx DI tq s07 ⊢
    clear x5 x6 x7 s04 s05 s06 na1 na2 nlp
    -- all legs, sorted
    refine ⟨_, rfl, x, D, dx, _, _, rfl, hx, TD.cl, TD.nL, df_legs _ _ _ _, _, rfl, l2, lp, _, _, rfl, rfl, DI.hg, hlp, by show gs.length + 2 ≤ sizeLine; rw [sizeLine_eq]; omega, fun u nu => ?_⟩
    have x8 := same_new (o := .lst (gs ++ [.ref a1, .ref a2])) nu
    have hu : upd H7 u (.lst (gs ++ [.ref a1, .ref a2])) u = some (.lst (gs ++ [.ref a1, .ref a2])) := upd_same
    have okt : nameS j.2.2 = true := gj.n2
    have oks : nameS j.1.2 = true := gj.n1
    have da1 : Dt H7 (.ref a1) (rowT (n1, j.2.2)) := .tup (.of ha1) (by show 2 ≤ 1000; decide) (.cons (.str _ (okS_name m1)) (.cons (.str _ (okS_name okt)) .nil))
    have da2 : Dt H7 (.ref a2) (rowT (n2, j.1.2)) := .tup (.of ha2) (by show 2 ≤ 1000; decide) (.cons (.str _ (okS_name m2)) (.cons (.str _ (okS_name oks)) .nil))
    have rg : DtAll H7 gs (lg.map rowT) := by
      obtain ⟨gv, eg, _, rg⟩ := dt_list DI.dg
      rw [DI.hg] at eg
      injection eg with eg
      injection eg with eg
      subst eg
      exact rg
    have r12 : DtAll (upd H7 u (.lst (gs ++ [.ref a1, .ref a2]))) (gs ++ [.ref a1, .ref a2]) ((lg ++ [(n1, j.2.2), (n2, j.1.2)]).map rowT) := by
      rw [List.map_append]
      exact (rg.app (.cons da1 (.cons da2 .nil))).same x8
    have d5 : Dt (upd H7 u (.lst (gs ++ [.ref a1, .ref a2]))) (.ref u) (.list ((lg ++ [(n1, j.2.2), (n2, j.1.2)]).map rowT)) := .lst hu (by rw [List.length_append]; show gs.length + 2 ≤ 1000; omega) r12
    delta tNil
    try dsimp only
    refine sort_ok d5 (fun d hd => by obtain ⟨e, _, rfl⟩ := List.mem_map.mp hd; exact ⟨(low_row20 e).nd, (low_row20 e).dep⟩) (alike_rows _) (sortable_rows _) fun g H9 dpg s9 => ?_
    rw [sortD_R] at dpg
    have x89 := x8.trans s9
    have s09 := s07.trans x89
    have ha1 := x89 _ _ ha1
    have ha2 := x89 _ _ ha2
    have hlp := x89 _ _ hlp
    have hp := x89 _ _ hp
    have hq := x89 _ _ hq
    have hx := x89 _ _ hx
    have DI := DI.same x89
    have tq := tq.same x89
    have da1 := da1.same x89
    have da2 := da2.same x89
    clear d5 r12 hu x8 s9 rg x89 s07 nu
    have lnd : ((lg ++ [(n1, j.2.2), (n2, j.1.2)]).map (·.1)).Nodup := by
      rw [List.map_append, List.nodup_append]
      refine ⟨LG.nd, by simpa using nn, fun y hy z hz e => ?_⟩
      subst e
      have hz2 : y = n1 ∨ y = n2 := by simpa using hz
      rcases hz2 with rfl | rfl
      · exact u1 hy
      · exact u2 hy
    have ndr : (cutLegs lg j n1 n2).Nodup := (sortR_perm _).nodup_iff.mpr (nodup_of_names lnd)
    have perl : (cutLegs lg j n1 n2).Perm (lg ++ [(n1, j.2.2), (n2, j.1.2)]) := sortR_perm _
    have lcl : (cutLegs lg j n1 n2).length = lg.length + 2 := by rw [perl.length_eq, List.length_append]; rfl
    have sub : ∀ z ∈ lg, z ∈ cutLegs lg j n1 n2 := fun z hz => perl.mem_iff.mpr (List.mem_append_left _ hz)
    have in1 : (n1, j.2.2) ∈ cutLegs lg j n1 n2 := perl.mem_iff.mpr (List.mem_append_right _ (by simp))
    have in2 : (n2, j.1.2) ∈ cutLegs lg j n1 n2 := perl.mem_iff.mpr (List.mem_append_right _ (by simp))
    change Dt H9 (.ref g) (.list ((cutLegs lg j n1 n2).map rowT)) at dpg
    generalize eLG : cutLegs lg j n1 n2 = legs at dpg ndr perl lcl sub in1 in2 k ⊢
    -- what is left of the joins
    refine ⟨_, rfl, x, D, dx, _, _, rfl, hx, TD.cl, TD.nJ, df_joins _ _ _ _, l3, _, rfl, .inl (SqL.of DI.hl), fun l4 n4 => ?_⟩
    have k4 := same_del' (o := .lst ws) n4
    have y4 := same_new (o := .lst ws) n4
    have h4 : upd H9 l4 (.lst ws) l4 = some (.lst ws) := upd_same
    have JA := DI.ja.dt DI.gj
    have lws := DI.ja.len
    have lw40 := DI.lw
    generalize upd H9 l4 (.lst ws) = H10 at k4 y4 h4 ⊢
    have dj10 := (dt_join gj tq).same y4
    refine ⟨_, rfl, .inl ⟨rfl, _, SqL.of h4⟩, _, rfl, l4, ws, .ref t, joinT j, js.map joinT, js.idxOf j, rfl, rfl, h4, (JA.same y4).dp (low_joins js).nd, dj10.dp (low_joinT j).nd, plain_joins js, rfl, Nat.le_trans (low_joinT j).dep (by decide), place_join hj, ?_⟩
    have x11 : Same H9 (upd H10 l4 (.lst (ws.eraseIdx (js.idxOf j)))) := k4.trans (del_upd_same.trans del_sub)
    have h11 : upd H10 l4 (.lst (ws.eraseIdx (js.idxOf j))) l4 = some (.lst (ws.eraseIdx (js.idxOf j))) := upd_same
    have s11 := s09.trans x11
    have ha1 := x11 _ _ ha1
    have ha2 := x11 _ _ ha2
    have hlp := x11 _ _ hlp
    have hp := x11 _ _ hp
    have hq := x11 _ _ hq
    have hx := x11 _ _ hx
    have DI := DI.same x11
    have da1 := da1.same x11
    have da2 := da2.same x11
    have dpg := dpg.same x11
    generalize upd H10 l4 (.lst (ws.eraseIdx (js.idxOf j))) = H11 at x11 h11 s11 ha1 ha2 hlp hp hq hx DI da1 da2 dpg ⊢
    clear k4 y4 h4 dj10 JA x11 s09 n4
    have jl : JoinsAt H11 (ws.eraseIdx (js.idxOf j)) (js.erase j) := by
      rw [List.erase_eq_eraseIdx_of_idxOf rfl]
      exact paired_erase _ (show Paired (JoinP H11) ws js from DI.ja)
    have pers : js.Perm (j :: js.erase j) := List.perm_cons_erase hj
    have subj : ∀ i ∈ js.erase j, i ∈ js := fun i hi => pers.mem_iff.mpr (List.mem_cons_of_mem _ hi)
    have lle : (js.erase j).length ≤ 40 := by
      have := pers.length_eq
      rw [List.length_cons] at this
      omega
    have plc := DI.places
    refine ⟨_, rfl, _, rfl, _, rfl, x, a, g, rows, ks, cs, lg, legs, gs, ws, js, rfl, ⟨⟨dx, l1, l2, l3, hx, DI⟩⟩, dpg, by omega, ndr, fun P1 H12 s12 hP1 => ?_⟩
    rw [among_all sub] at hP1
    refine ⟨l4, P1, ws.eraseIdx (js.idxOf j), js.erase j, bsP 0 cs.length cs.length legs lg, _, rows, rfl, s12 _ _ h11, jl.same s12, hP1, by omega, mu, fun i hi => (DI.gj i (subj i hi)).gn, fun i hi => ⟨ints_get (plN_of (by rw [bsP_len]; exact (plc i (subj i hi)).1)), ints_get (plN_of (by rw [bsP_len]; exact (plc i (subj i hi)).2))⟩, fun r wr H13 nr s13 hr13 jr => ?_⟩
    have s1113 := s12.trans (s13.trans (del_sub (H := H13) (p := r)))
    have sR := s11.trans (s12.trans s13)
    have nr11 : H11 r = none := s12.free nr
    have toD : Same H11 (del H13 r) := s12.trans s13
    have ha1 := toD _ _ ha1
    have ha2 := toD _ _ ha2
    have hlp := toD _ _ hlp
    have hp := toD _ _ hp
    have hq := toD _ _ hq
    have hx := toD _ _ hx
    have DI := DI.same toD
    have da1 := da1.same toD
    have da2 := da2.same toD
    have dpg := dpg.same toD
    clear s12 s13 hP1 h11 jl s1113 s11
    have lwr : wr.length ≤ 40 := by
      have z := jr.len
      unfold movedJ at z
      rw [(sortJ_perm _).length_eq, List.length_map] at z
      omega
    -- the two new joins
    refine ⟨_, rfl, _, rfl, by show 2 ≤ sizeLine; decide, fun ll nll => ?_⟩
    have x14 := same_new (o := .lst [.ref p, .ref q]) nll
    have hll : upd H13 ll (.lst [.ref p, .ref q]) ll = some (.lst [.ref p, .ref q]) := upd_same
    have nllr : ll ≠ r := (ne_of_none hr13 nll).symm
    have hr14 := x14 _ _ hr13
    have d14 := same_del (l := r) x14
    have hllD : del (upd H13 ll (.lst [.ref p, .ref q])) r ll = some (.lst [.ref p, .ref q]) := by
      rw [del_ne nllr]
      exact hll
    have ha1 := d14 _ _ ha1
    have ha2 := d14 _ _ ha2
    have hlp := d14 _ _ hlp
    have hp := d14 _ _ hp
    have hq := d14 _ _ hq
    have hx := d14 _ _ hx
    have DI := DI.same d14
    have da1 := da1.same d14
    have da2 := da2.same d14
    have dpg := dpg.same d14
    have jr := jr.same d14
    have sR := sR.trans d14
    generalize upd H13 ll (.lst [.ref p, .ref q]) = H14 at x14 hll hr14 d14 hllD ha1 ha2 hlp hp hq hx DI da1 da2 dpg jr sR ⊢
    have cl : (cs.map V.str).length = cs.length := List.length_map _
    have cs6 := DI.l6
    refine ⟨_, rfl, ll, lp, [.ref p, .ref q], [.ref a1, .ref a2], rfl, SqL.of hll, SqL.of (del_sub _ _ hlp), for_it (walk_zip (n := 2) rfl) (fun i σ H' => (∃ y9 y10, σ = [some (.ref x), some (.ref t), some (.ref nt), some (.ref p), some (.ref q), some (.ref lp), some (.ref g), some (.ref l4), some (.ref r), y9, y10]) ∧ Same (del H14 r) (del H' r) ∧ ∃ vs, H' r = some (.lst vs) ∧ vs.length ≤ 40 + i ∧ JoinsAt (del H' r) vs (movedJ (bsP 0 cs.length cs.length legs lg) (js.erase j) ++ [(j.1, (cs.length + legs.idxOf (n1, j.2.2), j.2.2)), (j.2, (cs.length + legs.idxOf (n2, j.1.2), j.1.2))].take i))
      ⟨⟨none, none, rfl⟩, Same.refl _, wr, hr14, by omega, by rw [List.take_zero, List.append_nil]; exact jr⟩ (fun i σ H' _ h => ⟨SqL.of (del_sub _ _ (h.2.1 _ _ hllD)), SqL.of (del_sub _ _ (h.2.1 _ _ hlp))⟩) ?_ ?_⟩
    · rintro i xv σ H15 H16 hi ⟨⟨y9, y10, rfl⟩, s15, vs, hr15, lvs, jv⟩ ⟨Tq, u', v', rfl, nT, rfl, eu, ev⟩
      obtain ⟨pp, e, aa, L, rfl, rfl, hpp, daa, taa, inL, ee⟩ : ∃ (pp : Addr) (e : End) (aa : Addr) (L : Str × Str), u' = .ref pp ∧ v' = .ref aa ∧ TupAt (del H14 r) pp [.int (e.1 : Nat), .str e.2] ∧ Dt (del H14 r) (.ref aa) (rowT L) ∧ TupAt (del H14 r) aa [.str L.1, .str L.2] ∧ L ∈ legs ∧ [(j.1, (cs.length + legs.idxOf (n1, j.2.2), j.2.2)), (j.2, (cs.length + legs.idxOf (n2, j.1.2), j.1.2))][i]? = some (e, (cs.length + legs.idxOf L, L.2)) := by
        match i, hi, eu, ev with
        | 0, _, eu, ev => exact ⟨p, j.1, a1, _, (Option.some.inj eu).symm, (Option.some.inj ev).symm, .of hp, da1, .of ha1, in1, rfl⟩
        | 1, _, eu, ev => exact ⟨q, j.2, a2, _, (Option.some.inj eu).symm, (Option.some.inj ev).symm, .of hq, da2, .of ha2, in2, rfl⟩
      have nTr : Tq ≠ r := (ne_of_none hr15 nT).symm
      have x16 := same_new (o := .tup [.ref pp, .ref aa]) nT
      have hr16 := x16 _ _ hr15
      have s16 := s15.trans (same_del (l := r) x16)
      have jv16 := jv.same (same_del (l := r) x16)
      refine ⟨Tq, _, rfl, SqT.of upd_same, rfl, _, _, rfl, _, _, rfl, rfl, ?_⟩
      generalize upd H15 Tq (.tup [.ref pp, .ref aa]) = H16 at x16 hr16 s16 jv16 ⊢
      have z16 := s16.trans (del_sub (H := H16) (p := r))
      have hx16 := z16 _ _ hx
      have DI16 := DI.same z16
      have dpg16 := dpg.same z16
      have daa16 := daa.same z16
      have hpp16 := hpp.same z16
      have taa16 := taa.same z16
      obtain ⟨gv, eg, _, _⟩ := dt_list dpg16
      refine ⟨_, rfl, .inl ⟨rfl, _, SqL.of hr16⟩, ?_⟩
      refine ⟨_, rfl, _, rfl, x, D, dx, _, _, rfl, hx16, TD.cl, TD.nC, df_corners _ _ _ _, l1, _, rfl, .inl (SqL.of DI16.hc), _, rfl, .inl ⟨rfl, _, SqL.of eg⟩, _, rfl, ?_⟩
      rw [cl]
      refine index_row dpg16 daa16 inL ndr ⟨_, _, rfl, rfl, _, rfl, aa, _, 1, _, rfl, rfl, taa16.sq, ix1, by show 2 ≤ sizeLine; decide, fun tb ntb => ?_⟩
      have x17 := same_new (o := .tup [.int ((cs.length : Int) + (legs.idxOf L : Nat)), .str L.2]) ntb
      have htb : upd H16 tb (.tup [.int ((cs.length : Int) + (legs.idxOf L : Nat)), .str L.2]) tb = some (.tup [.int ((cs.length : Int) + (legs.idxOf L : Nat)), .str L.2]) := upd_same
      have hr17 := x17 _ _ hr16
      have s17 := s16.trans (same_del (l := r) x17)
      have jv17 := jv16.same (same_del (l := r) x17)
      have hpp17 := hpp16.same x17
      generalize upd H16 tb (.tup [.int ((cs.length : Int) + (legs.idxOf L : Nat)), .str L.2]) = H17 at x17 htb hr17 s17 jv17 hpp17 ⊢
      refine ⟨pp, tb, _, _, rfl, rfl, hpp17.sq, (TupAt.of htb).sq, (by intro z; cases z), (by show 4 ≤ sizeLine; decide), (fun z => nomatch z), fun _ v nv => ?_⟩
      have nvr : v ≠ r := (ne_of_none hr17 nv).symm
      have x18 := same_new (o := .tup (joinV (e, (cs.length + legs.idxOf L, L.2)))) nv
      have hv : upd H17 v (.tup (joinV (e, (cs.length + legs.idxOf L, L.2)))) v = some (.tup (joinV (e, (cs.length + legs.idxOf L, L.2)))) := upd_same
      have hr18 := x18 _ _ hr17
      have s18 := s17.trans (same_del (l := r) x18)
      have i2 : i < 2 := hi
      refine ⟨r, vs, .ref v, rfl, rfl, hr18, by rw [sizeLine_eq]; omega, ?_⟩
      refine ⟨⟨_, _, rfl⟩, s18.trans del_upd_same, vs ++ [.ref v], upd_same, by rw [List.length_append]; show vs.length + 1 ≤ _; omega, ?_⟩
      rw [take_snoc ee, ← List.append_assoc]
      refine ((jv17.same (same_del (l := r) x18)).same del_upd_same).app (.cons ⟨v, rfl, .of ?_⟩ .nil)
      rw [del_ne nvr]
      show upd _ r _ v = _
      rw [upd_ne nvr]
      exact hv
    · rintro σ H15 ⟨⟨y9, y10, rfl⟩, s15, vs, hr15, lvs, jv⟩
      rw [List.take_of_length_le (Nat.le_refl 2)] at jv
      have z15 := s15.trans (del_sub (H := H15) (p := r))
      have s015 := sR.trans z15
      have hx := z15 _ _ hx
      have DI := DI.same z15
      have dpg := dpg.same z15
      have jvR := jv.same (del_sub (H := H15) (p := r))
      -- the drawing
      refine ⟨_, rfl, x, D, dx, _, _, rfl, hx, TD.cl, TD.nS, df_stock _ _ _ _, _, rfl, x, D, dx, _, _, rfl, hx, TD.cl, TD.nC, df_corners _ _ _ _, _, rfl, _, rfl, ?_⟩
      have i1 : j.1.1 < cs.length := by
        have := (endLe_iff _ _).mp gj.le
        unfold endR at this
        omega
      have gcut : ∀ i ∈ cutL (js.erase j) (bsP 0 cs.length cs.length legs lg) cs.length legs j (n1, j.2.2) (n2, j.1.2), GoodJ rows i := cut_good mu (fun i hi => DI.gj i (subj i hi)) gj rfl rfl i1 hin (mu.mt _ gj.pr)
      have pcut : (movedJ (bsP 0 cs.length cs.length legs lg) (js.erase j) ++ [(j.1, (cs.length + legs.idxOf (n1, j.2.2), j.2.2)), (j.2, (cs.length + legs.idxOf (n2, j.1.2), j.1.2))]).Perm (cutL (js.erase j) (bsP 0 cs.length cs.length legs lg) cs.length legs j (n1, j.2.2) (n2, j.1.2)) := (sortJ_perm _).append_right _
      have d5 : Dt H15 (.ref r) (.list ((movedJ (bsP 0 cs.length cs.length legs lg) (js.erase j) ++ [(j.1, (cs.length + legs.idxOf (n1, j.2.2), j.2.2)), (j.2, (cs.length + legs.idxOf (n2, j.1.2), j.1.2))]).map joinT)) := .lst hr15 (by omega) (jvR.dt fun i hi => gcut i (pcut.mem_iff.mp hi))
      refine sort_ok d5 (fun d hd => by obtain ⟨e, _, rfl⟩ := List.mem_map.mp hd; exact ⟨(low_joinT e).nd, (low_joinT e).dep⟩) (alike_joins _) (sortable_joins _) fun pj H20 dpj s20 => ?_
      rw [sortD_J, sortJ_perm_eq pcut] at dpj
      obtain ⟨wsj, ews, lws2, rws⟩ := dt_list dpj
      have jvF := joins_back rws
      have DI := DI.same s20
      have dpg := dpg.same s20
      obtain ⟨gv, hg, lgv, rgv⟩ := dt_list dpg
      have LGb : LegsG rows legs := by
        refine ⟨by omega, (perl.map _).nodup_iff.mpr lnd, fun z hz => ?_, fun z hz => ?_, by rw [← eLG]; exact sortR_pw _⟩
        · rcases List.mem_append.mp (perl.mem_iff.mp hz) with y | y
          · exact LG.nm z y
          · have y2 : z = (n1, j.2.2) ∨ z = (n2, j.1.2) := by simpa using y
            rcases y2 with rfl | rfl
            · exact m1
            · exact m2
        · rcases List.mem_append.mp (perl.mem_iff.mp hz) with y | y
          · exact LG.so z y
          · have y2 : z = (n1, j.2.2) ∨ z = (n2, j.1.2) := by simpa using y
            rcases y2 with rfl | rfl
            · exact List.mem_map_of_mem (f := (·.1)) (mu.mt _ gj.pr)
            · exact List.mem_map_of_mem (f := (·.1)) gj.pr
      have DIn := din_of gd gk DI.sg cs6 DI.hcs LGb DI.hc hg dpg ews jvF (cut_ends ndr perl pers DI.perm i1 hin) gcut
      have ecut : cutJ cs.length lg js j n1 n2 = sortJ (cutL (js.erase j) (bsP 0 cs.length cs.length legs lg) cs.length legs j (n1, j.2.2) (n2, j.1.2)) := by
        unfold cutJ
        rw [eLG]
      rw [ecut] at k
      exact fun z dz nz ndz nez => make_drw nz ndz nez DIn fun HF dn sF => ⟨rfl, k z gv wsj HF ((s015.trans s20).free nz) (dn.drg DIn sF) ((s015.trans s20).trans sF)⟩
end
end Toy
set_option Elab.async false
set_option linter.all false
set_option maxRecDepth 100000
set_option maxHeartbeats 4000000
namespace Toy
open PySem PySem.Spec PyProof.Rows L2
def innJ (m : Nat) (js : List JRow) : List JRow := js.filter fun j => decide (j.2.1 < m)
theorem innJ_snoc (m : Nat) (js : List JRow) (j : JRow) : innJ m (js ++ [j]) = if j.2.1 < m then innJ m js ++ [j] else innJ m js := by
  unfold innJ
  rw [List.filter_append]
  by_cases c : j.2.1 < m
  · rw [if_pos c, List.filter_cons_of_pos (by simpa using c)]
    rfl
  · rw [if_neg c, List.filter_cons_of_neg (by simpa using c), List.filter_nil, List.append_nil]
def spLInner : Sp := fun vs H Q _ => ∃ (t c g u : Addr) (cs : List Str) (lg : Rows2) (gs ws : List V) (js : List JRow), vs = [.ref t] ∧ Tri H t c g u cs lg gs ws js ∧ js.length ≤ 80 ∧
  ∀ (r : Addr) (wf : List V) (H' : Hp), H r = none → Same H (del H' r) → H' r = some (.lst wf) → JoinsAt (del H' r) wf (innJ cs.length js) → Q (.ref r) H'
section
variable {P : Program} {w : World} {K : PySem.W.Frag} {mg : Str → Option Value} {base : Heap}
abbrev liN : List Str := ["_law_drawn", "_law_join"]
theorem scLInner : FnScope liN ["_law_drawn"] (defScope sLInner) := ⟨rfl, rfl, rfl, by decide +kernel, rfl, by decide +kernel, by decide +kernel⟩
theorem ok_linner {f : Addr} {fd : FuncData} (F : Fun K "_law_inner" "_law_inner" sLInner f fd) (M : Mods mg) :
    FnOk P w K mg base CX0 1 f fd ["_law_drawn"] spLInner := by
  refine F.ok scLInner (fun vs H Q E h => ?_) (fun cdv A outer s H vs Q E hr h => ?_)
  · obtain ⟨t, c, g, u, cs, lg, gs, ws, js, rfl, _⟩ := h
    rfl
  · obtain ⟨t, c, g, u, cs, lg, gs, ws, js, rfl, T, l80, k⟩ := h
    refine ⟨_, (pss_one (ps_ret (pe_lc (own := [("_law_join", 1)]) (g := gName 1) (tt := tTest (tOp (rI0 fun i j => .bl (decide (i < j))) (tOp (rIxT K) (tVar 1) (tC (.int 2))) (tCB (rLen K) (tCons (tOp (rIxT K) (tVar 0) (tC (.int 0))) tNil)))) (te := tVar 1) rfl scLInner.nd (pi_list (pe_ix ix_tup (pv 0) pe_int (fun _ _ => rfl))) (blkOk_by (N := liN) (sc := defScope sLInner) (by decide +kernel)) (fun _ _ _ _ _ => pg_name (i := 1) scLInner.nd rfl (Or.inl rfl)) (fun _ _ _ _ _ => pts_one (pt_cmpR op_lt (pe_ix ix_tup (pv 1) pe_int (fun _ _ => rfl)) (pe_callB call_len_seq (by rfl) M.len PySem.boot_len (pa_cons (pe_ix ix_tup (pv 0) pe_int (fun _ _ => rfl)) pa_nil)) (nomark _))) (fun _ _ _ _ _ => (by exact (pv 1)))))), ?_⟩
    have lw := T.jv.len
    refine ⟨_, rfl, t, _, 2, _, rfl, rfl, T.tt.sq, ix2, u, rfl, ⟨_, SqL.of T.hu⟩, fun D nD => ?_⟩
    refine lc_it (walk_list (K := K) (a := u) (xs := ws)) (fun i H' => Same H (del H' D) ∧ ∃ wf, H' D = some (.lst wf) ∧ JoinsAt (del H' D) wf (innJ cs.length (js.take i))) ⟨same_del' nD, [], upd_same, .nil⟩ (fun i H' _ h => SqL.of (del_sub _ _ (h.1 _ _ T.hu))) ?_ ?_
    · rintro i x H3 H4 hi ⟨s3, wf, hD3, jv3⟩ ⟨rfl, hx⟩
      obtain ⟨j, tj, hj, rfl, tq⟩ := joins_at T.jv hx
      have tq3 := tq.same s3
      have z3 := s3.trans (del_sub (H := H4) (p := D))
      have T3 := T.same z3
      refine ⟨rfl, ?_⟩
      refine ⟨_, rfl, tj, _, 2, _, rfl, rfl, (tq3.same del_sub).sq, ix2, _, rfl, t, _, 0, _, rfl, rfl, T3.tt.sq, ix0, c, _, rfl, .inl (SqL.of T3.hc), _, _, rfl, rfl, _, rfl, ?_⟩
      rw [List.length_map]
      have e0 := innJ_snoc cs.length (js.take i) j
      rw [← take_snoc hj] at e0
      have lx := jv3.len
      have lo : (innJ cs.length (js.take i)).length ≤ 80 := by
        unfold innJ
        refine Nat.le_trans (List.length_filter_le _ _) ?_
        rw [List.length_take]
        omega
      refine ite2 (fun c => ?_) (fun c => ?_)
      · have ce : j.2.1 < cs.length := by
          have := of_decide_eq_true c
          omega
        refine ⟨_, rfl, _, hD3, small1000 (by omega), s3.trans del_upd_same, _, upd_same, ?_⟩
        rw [e0, if_pos ce]
        exact (jv3.same del_upd_same).app (.cons ⟨tj, rfl, tq3.same del_upd_same⟩ .nil)
      · have ce : ¬ j.2.1 < cs.length := fun z => c (decide_eq_true (by omega))
        refine ⟨s3, wf, hD3, ?_⟩
        rw [e0, if_neg ce]
        exact jv3
    · rintro H3 ⟨s3, wf, hD3, jv3⟩
      rw [lw, List.take_of_length_le (Nat.le_refl _)] at jv3
      exact k D wf H3 nD s3 hD3 jv3
end
end Toy
set_option Elab.async false
set_option linter.all false
set_option maxRecDepth 100000
set_option maxHeartbeats 4000000
namespace Toy
open PySem PySem.Spec PyProof.Rows L2
def ctsB (m n : Nat) (js : List JRow) (j : JRow) : Bool := decide ((comps n (edges js)).length < (comps n (edges (js.erase j))).length) && decide (j.2.1 < m)
def ctsJ (m n : Nat) (js : List JRow) : List JRow := js.filter (ctsB m n js)
theorem edges_perm {xs ys : List JRow} (n : Nat) (p : xs.Perm ys) : comps n (edges xs) = comps n (edges ys) := comps_mem n fun e => (p.map fun j => (j.1.1, j.2.1)).mem_iff
theorem erase_comps {js : List JRow} {i : Nat} {j : JRow} (n : Nat) (h : js[i]? = some j) : comps n (edges (js.eraseIdx i)) = comps n (edges (js.erase j)) :=
  edges_perm n (List.Perm.cons_inv ((erase_perm2 h).symm.trans (List.perm_cons_erase (List.mem_of_getElem? h))))
theorem ctsJ_snoc {m n : Nat} {js : List JRow} {i : Nat} {j : JRow} (h : js[i]? = some j) : (js.take (i + 1)).filter (ctsB m n js) = if ctsB m n js j = true then (js.take i).filter (ctsB m n js) ++ [j] else (js.take i).filter (ctsB m n js) := by
  rw [take_snoc h, List.filter_append]
  by_cases c : ctsB m n js j = true
  · rw [if_pos c, List.filter_cons_of_pos c]
    rfl
  · rw [if_neg c, List.filter_cons_of_neg c, List.filter_nil, List.append_nil]
theorem ctsJ_inn (m n : Nat) (js : List JRow) : (innJ m js).filter (fun j => decide ((comps n (edges js)).length < (comps n (edges (js.erase j))).length)) = ctsJ m n js := by
  unfold innJ ctsJ ctsB
  rw [List.filter_filter]
theorem snoc_filter {α : Type} {xs : List α} {p : α → Bool} {i : Nat} {x : α} (h : xs[i]? = some x) : (xs.take (i + 1)).filter p = if p x = true then (xs.take i).filter p ++ [x] else (xs.take i).filter p := by
  rw [take_snoc h, List.filter_append]
  by_cases c : p x = true
  · rw [if_pos c, List.filter_cons_of_pos c]
    rfl
  · rw [if_neg c, List.filter_cons_of_neg c, List.filter_nil, List.append_nil]
def spCuts (C D : Addr) : Sp := fun vs H Q _ => ∃ (x a : Addr) (rows : Rows2) (ks : List KRow) (cs : List Str) (lg : Rows2) (gs ws : List V) (js : List JRow), vs = [.ref x] ∧ DrG C D H x a rows ks cs lg gs ws js ∧
  ∀ (q : Addr) (wf : List V) (H' : Hp), Same H H' → H' q = some (.lst wf) → JoinsAt H' wf (ctsJ cs.length (cs.length + lg.length) js) → H q = none → Q (.ref q) H'
section
variable {P : Program} {w : World} {K : PySem.W.Frag} {mg : Str → Option Value} {base : Heap}
abbrev cusN : List Str := ["drawing", "many", "fewest", "found", "at", "join", "left"]
theorem scCuts : FnScope cusN ["drawing"] (defScope sCuts) := ⟨rfl, rfl, rfl, by decide +kernel, rfl, by decide +kernel, by decide +kernel⟩
theorem ok_cuts {f fMP fHG fIN C D : Addr} {fd fdMP fdHG fdIN : FuncData} (F : Fun K "cuts" "cuts" sCuts f fd) (M : Mods mg) (TD : DrC K mg D) (mEn : mg "enumerate" = none)
    (GMP : FnOk P w K mg base CX0 1 fMP fdMP ["drawing"] (spManyPl C D)) (kMP : PySem.W.keepIn K (.ref fMP) = true) (bMP : Binds K fdMP ["drawing"] []) (gMP : mg "_many_places" = some (.ref fMP))
    (GHG : FnOk P w K mg base CX0 1 fHG fdHG ["many", "joins"] spHang) (kHG : PySem.W.keepIn K (.ref fHG) = true) (bHG : Binds K fdHG ["many", "joins"] []) (gHG : mg "hanging" = some (.ref fHG))
    (GIN : FnOk P w K mg base CX0 1 fIN fdIN ["drawing", "join"] (spInner C D)) (kIN : PySem.W.keepIn K (.ref fIN) = true) (bIN : Binds K fdIN ["drawing", "join"] []) (gIN : mg "_is_inner" = some (.ref fIN)) :
    FnOk P w K mg base CX0 2 f fd ["drawing"] (spCuts C D) := by
  refine F.ok scCuts (fun vs H Q E h => ?_) (fun cdv A outer s H vs Q E hr h => ?_)
  · obtain ⟨x, a, rows, ks, cs, lg, gs, ws, js, rfl, _⟩ := h
    rfl
  · obtain ⟨x, a, rows, ks, cs, lg, gs, ws, js, rfl, dg, k⟩ := h
    refine ⟨_, (pss_cons (ps_set (i := 1) scCuts.nd rfl (Or.inl rfl) (pe_call GMP hr (by rfl) gMP kMP bMP .nil pass0 (pa_cons (pv 0) pa_nil)))
      (pss_cons (ps_set (i := 2) scCuts.nd rfl (Or.inl rfl) (pe_callB call_len_seq (by rfl) M.len PySem.boot_len (pa_cons (pe_call GHG hr (by rfl) gHG kHG bHG .nil pass0 (pa_cons (pv 1) (pa_cons (pe_fld (pv 0) rfl) pa_nil))) pa_nil)))
      (pss_cons (ps_set (i := 3) scCuts.nd rfl (Or.inl rfl) (pe_lst pa_nil))
      (pss_cons (ps_for PassesOwn.never rfl (pi_enum (by rfl) mEn (pa_cons (pe_fld (pv 0) rfl) pa_nil)) (pg_tup rfl (pgs_cons (pg_name (i := 4) scCuts.nd rfl (Or.inl rfl)) (pgs_cons (pg_name (i := 5) scCuts.nd rfl (Or.inl rfl)) pgs_nil))) (pss_cons (ps_set (i := 6) scCuts.nd rfl (Or.inl rfl) (pe_op op_cat (pe_slice sl_list (pe_fld (pv 0) rfl) po_none (po_some (pv 4))) (pe_slice sl_list (pe_fld (pv 0) rfl) (po_some (pe_op op_add (pv 4) pe_int)) po_none)))
      (pss_one (ps_if (PW.pt (pw_and (pt_val (pe_call GIN hr (by rfl) gIN kIN bIN .nil pass0 (pa_cons (pv 0) (pa_cons (pv 5) pa_nil)))) (pw_and1 (pt_cmpR op_gt (pe_callB call_len_seq (by rfl) M.len PySem.boot_len (pa_cons (pe_call GHG hr (by rfl) gHG kHG bHG .nil pass0 (pa_cons (pv 1) (pa_cons (pv 6) pa_nil))) pa_nil)) (pv 2) (nomark _))))) (pss_one (ps_expr (pe_bm PySem.F.plainAttrs_list PySem.F.slot_list_append PySem.F.type_list_append mt_append (pv 3) (pa_cons (pv 5) pa_nil)))) pss_nil))))
      (pss_one (ps_ret (pv 3))))))), ?_⟩
    obtain ⟨dx, l1, l2, l3, hx, DI⟩ := id dg
    have plc := DI.places
    have l6 := DI.l6
    have lg6 := DI.lg6
    have lw := DI.ja.len
    have lw40 := DI.lw
    generalize en : cs.length + lg.length = n at plc k
    refine ⟨_, rfl, x, a, rows, ks, cs, lg, gs, ws, js, rfl, dg, ?_⟩
    rw [en]
    refine ⟨_, rfl, _, rfl, x, D, dx, _, _, rfl, hx, TD.cl, TD.nJ, df_joins _ _ _ _, n, l3, ws, js, rfl, DI.hl, DI.ja, plc, by omega, by omega, fun q0 ps0 H1 s1 hq0 rw0 nq0 np0 nd0 => ?_⟩
    refine ⟨q0, _, rfl, .inl (SqL.of hq0), ?_⟩
    have lps0 : (ps0.map V.ref).length = (comps n (edges js)).length := by
      rw [List.length_map]
      exact (show Paired _ ps0 _ from rw0).length
    rw [lps0]
    refine ⟨by show 0 ≤ sizeLine; decide, fun F0 nF => ?_⟩
    have x2 := same_new (o := .lst []) nF
    have hF : upd H1 F0 (.lst []) F0 = some (.lst []) := upd_same
    have dg1 := dg.same s1
    have DI1 := DI.same s1
    have hx1 := s1 _ _ hx
    have fF : H F0 = none := s1.free nF
    generalize upd H1 F0 (.lst []) = H2 at x2 hF ⊢
    clear rw0 hq0 nq0 np0 nd0
    refine ⟨_, rfl, x, D, dx, _, _, rfl, x2 _ _ hx1, TD.cl, TD.nJ, df_joins _ _ _ _, l3, ws, rfl, SqL.of (x2 _ _ DI1.hl), for_it walk_enum (fun i σ H' => ∃ (y4 y5 y6 : Option V) (wf : List V), σ = [some (V.ref x), some (.int (n : Nat)), some (.int ((comps n (edges js)).length : Nat)), some (.ref F0), y4, y5, y6] ∧ Same H1 H' ∧ H' F0 = some (.lst wf) ∧ JoinsAt H1 wf ((js.take i).filter (ctsB cs.length n js)))
      ⟨_, _, _, [], rfl, x2, hF, .nil⟩ (fun i σ H' _ h => by obtain ⟨_, _, _, _, _, s, _⟩ := h; exact SqL.of (s _ _ DI1.hl)) ?_ ?_⟩
    · rintro i xv σ H3 H4 hi ⟨y4, y5, y6, wf, rfl, s3, hF3, jvf⟩ ⟨T, uu, v, rfl, nT, rfl, hu', hv⟩
      cases hu'
      have hv : ws[i]? = some v := hv
      obtain ⟨j, tj, hj, rfl, tq⟩ := joins_at5 DI1.ja hv
      have il := (List.getElem?_eq_some_iff.mp hj).1
      have t4 := same_new (o := .tup [.int (i : Nat), .ref tj]) nT
      refine ⟨T, _, rfl, SqT.of upd_same, rfl, _, _, rfl, _, _, rfl, rfl, ?_⟩
      have s4 := s3.trans t4
      have hF4 := t4 _ _ hF3
      generalize upd H3 T (.tup [.int (i : Nat), .ref tj]) = H5 at t4 s4 hF4 ⊢
      clear s3 hF3
      -- the others
      refine ⟨_, rfl, x, D, dx, _, _, rfl, s4 _ _ hx1, TD.cl, TD.nJ, df_joins _ _ _ _, _, rfl, (i : Nat), rfl, l3, ws, rfl, SqL.of (s4 _ _ DI1.hl), fun p np => ?_⟩
      rw [cut_to]
      have z1 := same_new (o := .lst (ws.take i)) np
      have hp : upd H5 p (.lst (ws.take i)) p = some (.lst (ws.take i)) := upd_same
      have s5 := s4.trans z1
      have hF5 := z1 _ _ hF4
      generalize upd H5 p (.lst (ws.take i)) = H6 at z1 hp s5 hF5 ⊢
      refine ⟨_, rfl, x, D, dx, _, _, rfl, s5 _ _ hx1, TD.cl, TD.nJ, df_joins _ _ _ _, _, rfl, _, _, rfl, rfl, ((i + 1 : Nat) : Int), rfl, l3, ws, rfl, SqL.of (s5 _ _ DI1.hl), fun q nq => ?_⟩
      rw [cut_from _ _ (by omega)]
      have z2 := same_new (o := .lst (ws.drop (i + 1))) nq
      have hq : upd H6 q (.lst (ws.drop (i + 1))) q = some (.lst (ws.drop (i + 1))) := upd_same
      have hp := z2 _ _ hp
      have s6 := s5.trans z2
      have hF6 := z2 _ _ hF5
      generalize upd H6 q (.lst (ws.drop (i + 1))) = H7 at z2 hp hq s6 hF6 ⊢
      refine ⟨p, q, _, _, rfl, rfl, hp, hq, by rw [sizeLine_eq, List.length_take, List.length_drop]; omega, fun r nr => ?_⟩
      rw [← List.eraseIdx_eq_take_drop_succ]
      have z3 := same_new (o := .lst (ws.eraseIdx i)) nr
      have hr7 : upd H7 r (.lst (ws.eraseIdx i)) r = some (.lst (ws.eraseIdx i)) := upd_same
      have s7 := s6.trans z3
      have hF7 := z3 _ _ hF6
      generalize upd H7 r (.lst (ws.eraseIdx i)) = H8 at z3 hr7 s7 hF7 ⊢
      clear s4 s5 s6 hF4 hF5 hF6 hp hq
      have jve : JoinsAt H8 (ws.eraseIdx i) (js.eraseIdx i) := paired_erase i (show Paired (JoinP _) ws js from DI1.ja.same s7)
      have sub : ∀ e ∈ js.eraseIdx i, e ∈ js := fun e he => List.mem_of_mem_eraseIdx he
      have le8 : (js.eraseIdx i).length ≤ 80 := by rw [List.length_eraseIdx_of_lt il]; omega
      have eS := ctsJ_snoc (m := cs.length) (n := n) hj
      have eE := erase_comps n hj
      have lwf : wf.length ≤ 80 := by
        rw [jvf.len]
        refine Nat.le_trans (List.length_filter_le _ _) ?_
        rw [List.length_take]
        omega
      dsimp only
      refine ⟨_, rfl, _, rfl, x, a, tj, rows, ks, cs, lg, gs, ws, js, j, rfl, dg1.same s7, tq.same s7, ?_⟩
      refine ⟨_, rfl, ?_⟩
      dsimp only
      by_cases c1 : j.2.1 < cs.length
      · rw [decide_eq_true c1, if_pos rfl]
        refine ⟨_, rfl, _, rfl, n, r, _, _, rfl, hr7, jve, fun e he => plc e (sub e he), by omega, le8, fun q1 ps1 H9 s9 hq1 rw1 nq1 np1 nd1 => ?_⟩
        refine ⟨q1, _, rfl, .inl (SqL.of hq1), ?_⟩
        have lps1 : (ps1.map V.ref).length = (comps n (edges (js.erase j))).length := by
          rw [List.length_map, ← eE]
          exact (show Paired _ ps1 _ from rw1).length
        rw [lps1]
        have hF9 := s9 _ _ hF7
        have s9 := s7.trans s9
        refine ⟨_, rfl, _, _, rfl, rfl, _, rfl, ?_⟩
        refine ite2 (fun cc => ?_) (fun cc => ?_)
        · have lt : (comps n (edges js)).length < (comps n (edges (js.erase j))).length := by
            have := of_decide_eq_true cc
            omega
          have cB : ctsB cs.length n js j = true := by
            unfold ctsB
            rw [decide_eq_true lt, decide_eq_true c1]
            rfl
          refine ⟨_, rfl, .inl ⟨rfl, _, SqL.of hF9⟩, _, rfl, F0, wf, _, rfl, rfl, hF9, by rw [sizeLine_eq]; omega, ?_⟩
          refine ⟨_, _, _, wf ++ [.ref tj], rfl, fun b o e => ?_, upd_same, ?_⟩
          · rw [upd_ne (ne_of_none e nF)]
            exact s9 _ _ e
          · rw [eS, if_pos cB]
            exact jvf.app (.cons ⟨tj, rfl, tq⟩ .nil)
        · have lt : ¬ (comps n (edges js)).length < (comps n (edges (js.erase j))).length := fun z => cc (decide_eq_true (by omega))
          have cB : ¬ ctsB cs.length n js j = true := by
            unfold ctsB
            rw [decide_eq_false lt, Bool.false_and]
            decide
          refine ⟨_, _, _, wf, rfl, s9, hF9, ?_⟩
          rw [eS, if_neg cB]
          exact jvf
      · have cB : ¬ ctsB cs.length n js j = true := by
          unfold ctsB
          rw [decide_eq_false c1, Bool.and_false]
          decide
        rw [decide_eq_false c1, if_neg Bool.false_ne_true]
        refine ⟨_, _, _, wf, rfl, s7, hF7, ?_⟩
        rw [eS, if_neg cB]
        exact jvf
    · rintro σ H3 ⟨y4, y5, y6, wf, rfl, s3, hF3, jvf⟩
      rw [lw, List.take_of_length_le (Nat.le_refl _)] at jvf
      exact ⟨_, rfl, k F0 wf H3 (s1.trans s3) hF3 (jvf.same s3) fF⟩
end
end Toy
set_option Elab.async false
set_option linter.all false
set_option maxRecDepth 100000
set_option maxHeartbeats 4000000
namespace Toy
open PySem PySem.Spec PyProof.Rows L2
/-! ### how many hang together -/
theorem rows_keys (m : Nat → Nat) : ∀ (n : Nat) (L : List Nat), L.length ≤ n → ∃ K : List Nat, K.Nodup ∧ (∀ k, k ∈ K ↔ ∃ i ∈ L, m i = k) ∧ K.length = (rows m L).length
  | _, [], _ => ⟨[], .nil, fun k => ⟨fun h => (by cases h), fun ⟨i, h, _⟩ => (by cases h)⟩, rfl⟩
  | n + 1, p :: L, hl => by
    obtain ⟨K, nd, mm, lk⟩ := rows_keys m n (L.filter fun q => decide (m q ≠ m p)) (Nat.le_trans (List.length_filter_le _ _) (Nat.le_of_succ_le_succ hl))
    refine ⟨m p :: K, List.nodup_cons.mpr ⟨fun h => ?_, nd⟩, fun k => ?_, ?_⟩
    · obtain ⟨i, hi, e⟩ := (mm (m p)).mp h
      exact of_decide_eq_true (List.mem_filter.mp hi).2 e
    · constructor
      · intro h
        rcases List.mem_cons.mp h with rfl | h
        · exact ⟨p, List.mem_cons_self, rfl⟩
        · obtain ⟨i, hi, e⟩ := (mm k).mp h
          exact ⟨i, List.mem_cons_of_mem _ (List.mem_filter.mp hi).1, e⟩
      · rintro ⟨i, hi, rfl⟩
        by_cases c : m i = m p
        · rw [c]
          exact List.mem_cons_self
        · rcases List.mem_cons.mp hi with rfl | hi
          · exact absurd rfl c
          · exact List.mem_cons_of_mem _ ((mm (m i)).mpr ⟨i, List.mem_filter.mpr ⟨hi, decide_eq_true c⟩, rfl⟩)
    · rw [rows_cons, List.length_cons, List.length_cons, lk]
theorem same_len {xs ys : List Nat} (a : xs.Nodup) (b : ys.Nodup) (h : ∀ k, k ∈ xs ↔ k ∈ ys) : xs.length = ys.length :=
  Nat.le_antisymm (nodup_leN a fun k hk => (h k).mp hk) (nodup_leN b fun k hk => (h k).mpr hk)
theorem comps_keys (n : Nat) (es : List Edge) : ∃ K : List Nat, K.Nodup ∧ (∀ k, k ∈ K ↔ ∃ i, i < n ∧ marks es i = k) ∧ K.length = (comps n es).length := by
  obtain ⟨K, a, b, c⟩ := rows_keys (marks es) n (List.range n) (by rw [List.length_range]; exact Nat.le_refl _)
  refine ⟨K, a, fun k => ?_, c⟩
  rw [b k]
  exact ⟨fun ⟨i, h, e⟩ => ⟨i, List.mem_range.mp h, e⟩, fun ⟨i, h, e⟩ => ⟨i, List.mem_range.mpr h, e⟩⟩
theorem comps_more {n : Nat} {es : List Edge} {e : Edge} (h1 : e.1 < n) (h2 : e.2 < n) (ne : marks es e.1 ≠ marks es e.2) : (comps n (es ++ [e])).length + 1 = (comps n es).length := by
  obtain ⟨K, nd, mm, lk⟩ := comps_keys n es
  obtain ⟨K', nd', mm', lk'⟩ := comps_keys n (es ++ [e])
  have h2m : marks es e.2 ∈ K := (mm _).mpr ⟨_, h2, rfl⟩
  have lp := List.length_pos_of_mem h2m
  have le := List.length_erase_of_mem h2m
  have key : ∀ k, k ∈ K' ↔ k ∈ K.erase (marks es e.2) := fun k => by
    rw [mm' k, nd.mem_erase_iff, mm k, marks_snoc]
    unfold mstep
    constructor
    · rintro ⟨i, hi, rfl⟩
      by_cases c : marks es i = marks es e.2
      · rw [if_pos c]
        exact ⟨ne, e.1, h1, rfl⟩
      · rw [if_neg c]
        exact ⟨c, i, hi, rfl⟩
    · rintro ⟨nk, i, hi, rfl⟩
      exact ⟨i, hi, if_neg nk⟩
  have := same_len nd' (nd.erase _) key
  omega
theorem comps_sameE {n : Nat} {es : List Edge} {e : Edge} (h : marks es e.1 = marks es e.2) : comps n (es ++ [e]) = comps n es := by
  unfold comps
  refine rows_ker n _ (by rw [List.length_range]; exact Nat.le_refl _) fun i _ j _ => ?_
  have q : marks (es ++ [e]) = marks es := by
    rw [marks_snoc]
    funext i
    unfold mstep
    by_cases c : marks es i = marks es e.2
    · rw [if_pos c, h, c]
    · rw [if_neg c]
  rw [q]
theorem edges_app (xs ys : List JRow) : edges (xs ++ ys) = edges xs ++ edges ys := List.map_append
theorem erase_add (n : Nat) {js : List JRow} {j : JRow} (h : j ∈ js) : comps n (edges js) = comps n (edges (js.erase j) ++ [(j.1.1, j.2.1)]) := by
  rw [show [(j.1.1, j.2.1)] = edges [j] from rfl, ← edges_app]
  exact edges_perm n ((List.perm_cons_erase h).trans (List.perm_append_comm (l₁ := [j])))
/-- a cut parts its two places -/
theorem ctsB_iff {m n : Nat} {js : List JRow} {j : JRow} (h : j ∈ js) (h1 : j.1.1 < n) (h2 : j.2.1 < n) : ctsB m n js j = true ↔ marks (edges (js.erase j)) j.1.1 ≠ marks (edges (js.erase j)) j.2.1 ∧ j.2.1 < m := by
  unfold ctsB
  rw [Bool.and_eq_true, decide_eq_true_eq, decide_eq_true_eq, erase_add n h]
  refine and_congr_left fun _ => ⟨fun q e => ?_, fun q => ?_⟩
  · rw [comps_sameE e] at q
    exact absurd q (Nat.lt_irrefl _)
  · have := comps_more (n := n) (e := (j.1.1, j.2.1)) h1 h2 q
    omega
theorem filter_once {js : List JRow} {p : JRow → Bool} (h : ∀ x ∈ js, p x = true → x ∉ js.erase x) : (js.filter p).Nodup := by
  refine List.nodup_iff_count.mpr fun x => ?_
  by_cases hx : x ∈ js
  · by_cases c : p x = true
    · rw [List.count_filter c]
      have q := List.count_eq_zero_of_not_mem (h x hx c)
      rw [List.count_erase_self] at q
      omega
    · rw [List.count_eq_zero_of_not_mem fun q => c (List.mem_filter.mp q).2]
      exact Nat.zero_le _
  · rw [List.count_eq_zero_of_not_mem fun q => hx (List.mem_filter.mp q).1]
    exact Nat.zero_le _
theorem edge_mem {js : List JRow} {j : JRow} (h : j ∈ js) : (j.1.1, j.2.1) ∈ edges js := List.mem_map_of_mem (f := fun j : JRow => (j.1.1, j.2.1)) h
theorem cuts_once {m n : Nat} {js : List JRow} (pl : ∀ j ∈ js, j.1.1 < n ∧ j.2.1 < n) : (ctsJ m n js).Nodup := by
  refine filter_once fun x hx c q => ?_
  exact ((ctsB_iff hx (pl x hx).1 (pl x hx).2).mp c).1 (marks_edge _ _ (edge_mem q))
theorem bridges {n : Nat} {js R : List JRow} (hR : ∀ x ∈ R, x ∈ js) : ∀ B : List JRow, B.Nodup → (∀ b ∈ B, b ∉ R ∧ b ∈ js ∧ b.1.1 < n ∧ b.2.1 < n ∧ marks (edges (js.erase b)) b.1.1 ≠ marks (edges (js.erase b)) b.2.1) → (comps n (edges (R ++ B))).length + B.length = (comps n (edges R)).length
  | [], _, _ => by rw [List.append_nil]; rfl
  | b :: B, nd, h => by
    obtain ⟨n1, n2⟩ := List.nodup_cons.mp nd
    have ih := bridges hR B n2 fun x hx => h x (List.mem_cons_of_mem _ hx)
    obtain ⟨b1, b2, b3, b4, b5⟩ := h b List.mem_cons_self
    have sub : ∀ x ∈ R ++ B, x ∈ js.erase b := fun x hx => by
      rcases List.mem_append.mp hx with q | q
      · exact (List.mem_erase_of_ne fun e => b1 (by rw [← e]; exact q)).mpr (hR x q)
      · exact (List.mem_erase_of_ne fun e => n1 (by rw [← e]; exact q)).mpr (h x (List.mem_cons_of_mem _ q)).2.1
    have ne : marks (edges (R ++ B)) b.1.1 ≠ marks (edges (R ++ B)) b.2.1 := fun q => b5 (marks_sub (fun e he => by
      obtain ⟨x, hx, rfl⟩ := List.mem_map.mp he
      exact edge_mem (sub x hx)) q)
    have q := comps_more (e := (b.1.1, b.2.1)) b3 b4 ne
    have e : comps n (edges (R ++ b :: B)) = comps n (edges (R ++ B) ++ [(b.1.1, b.2.1)]) := by
      rw [show [(b.1.1, b.2.1)] = edges [b] from rfl, ← edges_app]
      refine edges_perm n ?_
      rw [List.append_assoc]
      exact List.Perm.append_left R (List.perm_append_comm (l₁ := [b]))
    rw [e, List.length_cons]
    omega
def restJ (m n : Nat) (js : List JRow) : List JRow := js.filter fun j => decide (j ∉ ctsJ m n js)
def pcsJ (m n : Nat) (js : List JRow) : List JRow := (innJ m js).filter fun j => decide (j ∉ ctsJ m n js)
theorem rest_count {m n : Nat} {js : List JRow} (pl : ∀ j ∈ js, j.1.1 < n ∧ j.2.1 < n) : (comps n (edges js)).length + (ctsJ m n js).length = (comps n (edges (restJ m n js))).length := by
  have q := bridges (n := n) (js := js) (R := restJ m n js) (fun x hx => (List.mem_filter.mp (show x ∈ js.filter _ from hx)).1) (ctsJ m n js) (cuts_once pl) fun b hb => by
    obtain ⟨b1, b2⟩ := List.mem_filter.mp (show b ∈ js.filter _ from hb)
    refine ⟨fun z => of_decide_eq_true (List.mem_filter.mp (show b ∈ js.filter _ from z)).2 hb, b1, (pl b b1).1, (pl b b1).2, ((ctsB_iff b1 (pl b b1).1 (pl b b1).2).mp b2).1⟩
  rw [← q]
  congr 2
  refine comps_mem n fun e => ⟨fun he => ?_, fun he => ?_⟩
  · obtain ⟨x, hx, rfl⟩ := List.mem_map.mp he
    refine edge_mem (List.mem_append.mpr ?_)
    by_cases c : x ∈ ctsJ m n js
    · exact .inr c
    · exact .inl (List.mem_filter.mpr ⟨hx, decide_eq_true c⟩)
  · obtain ⟨x, hx, rfl⟩ := List.mem_map.mp he
    refine edge_mem ?_
    rcases List.mem_append.mp hx with q | q
    · exact (List.mem_filter.mp (show x ∈ js.filter _ from q)).1
    · exact (List.mem_filter.mp (show x ∈ js.filter _ from q)).1
/-- a leg stands in one join only -/
structure LegOnce (m : Nat) (js : List JRow) : Prop where
  le : ∀ j ∈ js, j.1.1 ≤ j.2.1
  once : ∀ i ∈ js, ∀ j ∈ js, m ≤ j.2.1 → i.2.1 = j.2.1 → i = j
  apart : ∀ i ∈ js, ∀ j ∈ js, m ≤ j.2.1 → i.1.1 ≠ j.2.1
theorem LegOnce.sub {m : Nat} {js R : List JRow} (h : LegOnce m js) (s : ∀ x ∈ R, x ∈ js) : LegOnce m R := ⟨fun j hj => h.le j (s j hj), fun i hi j hj => h.once i (s i hi) j (s j hj), fun i hi j hj => h.apart i (s i hi) j (s j hj)⟩
theorem two_of_one {α : Type} : ∀ {xs : List α}, xs.length ≤ 1 → ∀ {a b : α}, a ∈ xs → b ∈ xs → a = b
  | [], _, _, _, h, _ => nomatch h
  | [x], _, a, b, h1, h2 => by rw [List.mem_singleton.mp h1, List.mem_singleton.mp h2]
  | _ :: _ :: _, h, _, _, _, _ => by
    have h : _ + 1 + 1 ≤ 1 := h
    omega
theorem legOnce_of {rows : Rows2} {ks : List KRow} {cs : List Str} {lg : Rows2} {js : List JRow} (pm : (js.map (·.1) ++ js.map (·.2)).Perm (allE ks cs lg)) (gj : ∀ j ∈ js, GoodJ rows j) (pl : ∀ j ∈ js, j.1.1 < cs.length + lg.length ∧ j.2.1 < cs.length + lg.length) : LegOnce cs.length js := by
  have one : ∀ l, cs.length ≤ l → l < cs.length + lg.length → (js.filter fun j => decide (j.1.1 = l)).length + (js.filter fun j => decide (j.2.1 = l)).length = 1 := fun l h1 h2 => by
    have q := (pm.filter fun e => decide (e.1 ∈ [l])).length_eq
    rw [all_flat, ends_filter, List.filter_append, List.length_append, List.filter_map, List.filter_map, List.length_map, List.length_map, range_sub (List.pairwise_singleton _ _) (fun p hp => by rw [List.mem_singleton.mp hp]; exact h2), List.flatMap_singleton] at q
    have e : (plEnds ks cs lg l).length = 1 := by
      unfold plEnds
      rw [if_neg (by omega)]
      rfl
    rw [e] at q
    have z : ∀ k : Nat, decide (k ∈ [l]) = decide (k = l) := fun k => decide_eq_decide.mpr List.mem_singleton
    rw [← q]
    congr 2
    · refine List.filter_congr fun j _ => (z _).symm
    · refine List.filter_congr fun j _ => (z _).symm
  refine ⟨fun j hj => ?_, fun i hi j hj h e => ?_, fun i hi j hj h e => ?_⟩
  · have q := (gj j hj).le
    rw [endLe_iff] at q
    rcases q with q | q <;> omega
  · have q := one j.2.1 h (pl j hj).2
    exact two_of_one (xs := js.filter fun k => decide (k.2.1 = j.2.1)) (by omega) (List.mem_filter.mpr ⟨hi, decide_eq_true e⟩) (List.mem_filter.mpr ⟨hj, decide_eq_true rfl⟩)
  · have q := one j.2.1 h (pl j hj).2
    have a := List.length_pos_of_mem (show i ∈ js.filter (fun k => decide (k.1.1 = j.2.1)) from List.mem_filter.mpr ⟨hi, decide_eq_true e⟩)
    have b := List.length_pos_of_mem (show j ∈ js.filter (fun k => decide (k.2.1 = j.2.1)) from List.mem_filter.mpr ⟨hj, decide_eq_true rfl⟩)
    omega
/-- without the legs as many, where each leg hangs at a corner -/
theorem legs_off {m n : Nat} {R : List JRow} (lo : LegOnce m R) (mn : m ≤ n) (at_ : ∀ l, l < n → ∃ c, c < m ∧ marks (edges R) l = marks (edges R) c) : (comps m (edges (innJ m R))).length = (comps n (edges R)).length := by
  have sub : ∀ x ∈ innJ m R, x ∈ R := fun x hx => (List.mem_filter.mp (show x ∈ R.filter _ from hx)).1
  have sE : ∀ e ∈ edges (innJ m R), e ∈ edges R := fun e he => by
    obtain ⟨x, hx, rfl⟩ := List.mem_map.mp he
    exact edge_mem (sub x hx)
  have ker : ∀ i, i < m → ∀ j, j < m → marks (edges R) i = marks (edges R) j → marks (edges (innJ m R)) i = marks (edges (innJ m R)) j := fun i hi j hj q => by
    have z := marks_sat (S := fun k => if k < m then marks (edges (innJ m R)) k = marks (edges (innJ m R)) i else ∃ x ∈ R, x.1.1 < m ∧ x.2.1 = k ∧ marks (edges (innJ m R)) x.1.1 = marks (edges (innJ m R)) i) (edges R) (fun e he => by
      obtain ⟨x, hx, rfl⟩ := List.mem_map.mp he
      have xle := lo.le x hx
      dsimp only
      by_cases c2 : x.2.1 < m
      · have c1 : x.1.1 < m := by omega
        rw [if_pos c1, if_pos c2]
        have := marks_edge (edges (innJ m R)) _ (edge_mem (js := innJ m R) (j := x) (List.mem_filter.mpr ⟨hx, decide_eq_true c2⟩))
        dsimp only at this
        rw [this]
      · rw [if_neg c2]
        by_cases c1 : x.1.1 < m
        · rw [if_pos c1]
          constructor
          · exact fun w => ⟨x, hx, c1, rfl, w⟩
          · rintro ⟨y, hy, _, e, w⟩
            rw [← lo.once y hy x hx (by omega) e]
            exact w
        · rw [if_neg c1]
          constructor
          · rintro ⟨y, hy, _, e, _⟩
            exact absurd e.symm (lo.apart x hx y hy (by omega))
          · rintro ⟨y, hy, c, e, _⟩
            have := lo.once y hy x hx (by omega) e
            rw [this] at c
            exact absurd c c1) i j q
    rw [if_pos hi, if_pos hj] at z
    exact (z.mp rfl).symm
  have e1 : comps m (edges (innJ m R)) = rows (marks (edges R)) (List.range m) := rows_ker m _ (by rw [List.length_range]; exact Nat.le_refl _) fun i hi j hj => ⟨marks_sub sE, ker i (List.mem_range.mp hi) j (List.mem_range.mp hj)⟩
  obtain ⟨K, nd, mm, lk⟩ := rows_keys (marks (edges R)) m (List.range m) (by rw [List.length_range]; exact Nat.le_refl _)
  obtain ⟨K', nd', mm', lk'⟩ := comps_keys n (edges R)
  rw [e1, ← lk, ← lk']
  refine same_len nd nd' fun k => ?_
  rw [mm k, mm' k]
  constructor
  · rintro ⟨i, hi, e⟩
    exact ⟨i, Nat.lt_of_lt_of_le (List.mem_range.mp hi) mn, e⟩
  · rintro ⟨i, hi, rfl⟩
    obtain ⟨c, hc, e⟩ := at_ i hi
    exact ⟨c, List.mem_range.mpr hc, e.symm⟩
theorem whole_one {n : Nat} {es : List Edge} (h : (comps n es).length = 1) {i j : Nat} (hi : i < n) (hj : j < n) : marks es i = marks es j := by
  obtain ⟨K, nd, mm, lk⟩ := comps_keys n es
  exact two_of_one (xs := K) (by omega) ((mm _).mpr ⟨i, hi, rfl⟩) ((mm _).mpr ⟨j, hj, rfl⟩)
/-- of a whole one with corners, one piece more than cuts -/
theorem pieces_count {m n : Nat} {js : List JRow} (pl : ∀ j ∈ js, j.1.1 < n ∧ j.2.1 < n) (lo : LegOnce m js) (mn : m ≤ n) (hm : 0 < m) (w : (comps n (edges js)).length = 1) : (comps m (edges (pcsJ m n js))).length = (ctsJ m n js).length + 1 := by
  have sub : ∀ x ∈ restJ m n js, x ∈ js := fun x hx => (List.mem_filter.mp (show x ∈ js.filter _ from hx)).1
  have e : pcsJ m n js = innJ m (restJ m n js) := by
    unfold pcsJ innJ restJ
    rw [List.filter_filter, List.filter_filter]
    exact List.filter_congr fun _ _ => Bool.and_comm _ _
  rw [e, legs_off (lo.sub sub) mn fun l hl => ?_, ← rest_count pl, w, Nat.add_comm]
  have z := marks_sat (S := fun k => ¬ ∃ c, c < m ∧ marks (edges (restJ m n js)) k = marks (edges (restJ m n js)) c) (edges js) (fun e he => by
    obtain ⟨x, hx, rfl⟩ := List.mem_map.mp he
    have xle := lo.le x hx
    by_cases c : x ∈ ctsJ m n js
    · have c2 := ((ctsB_iff hx (pl x hx).1 (pl x hx).2).mp (List.mem_filter.mp (show x ∈ js.filter _ from c)).2).2
      exact ⟨fun q => absurd ⟨x.1.1, by omega, rfl⟩ q, fun q => absurd ⟨x.2.1, c2, rfl⟩ q⟩
    · have := marks_edge (edges (restJ m n js)) _ (edge_mem (js := restJ m n js) (j := x) (List.mem_filter.mpr ⟨hx, decide_eq_true c⟩))
      dsimp only at this ⊢
      rw [this]) l 0 (whole_one w hl (by omega))
  exact Classical.not_not.mp fun q => z.mp q ⟨0, hm, rfl⟩
end Toy
set_option Elab.async false
set_option linter.all false
set_option maxRecDepth 100000
set_option maxHeartbeats 4000000
namespace Toy
open PySem PySem.Spec PyProof.Rows L2
theorem join_le {rows : Rows2} {j : JRow} (gj : GoodJ rows j) : j.1.1 ≤ j.2.1 := by
  have q := gj.le
  rw [endLe_iff] at q
  rcases q with q | q <;> omega
/-! ### how many parts there are behind a cut -/
def nonJ (m : Nat) (js : List JRow) : List JRow := js.filter fun j => decide (¬ j.2.1 < m)
theorem non_inn (m : Nat) : ∀ js : List JRow, (nonJ m js).length + (innJ m js).length = js.length
  | [] => rfl
  | j :: js => by
    have ih := non_inn m js
    unfold nonJ innJ at *
    by_cases c : j.2.1 < m
    · rw [List.filter_cons_of_neg (by simpa using c), List.filter_cons_of_pos (by simpa using c), List.length_cons, List.length_cons]
      omega
    · rw [List.filter_cons_of_pos (by simpa using c), List.filter_cons_of_neg (by simpa using c), List.length_cons, List.length_cons]
      omega
theorem non_once {ks : List KRow} {cs : List Str} {lg : Rows2} {js : List JRow} (pm : (js.map (·.1) ++ js.map (·.2)).Perm (allE ks cs lg)) (pl : ∀ j ∈ js, j.1.1 < cs.length + lg.length ∧ j.2.1 < cs.length + lg.length) : (nonJ cs.length js).Nodup := by
  have one : ∀ l, cs.length ≤ l → l < cs.length + lg.length → (js.filter fun j => decide (j.2.1 = l)).length ≤ 1 := fun l h1 h2 => by
    have q := (pm.filter fun e => decide (e.1 ∈ [l])).length_eq
    rw [all_flat, ends_filter, List.filter_append, List.length_append, List.filter_map, List.filter_map, List.length_map, List.length_map, range_sub (List.pairwise_singleton _ _) (fun p hp => by rw [List.mem_singleton.mp hp]; exact h2), List.flatMap_singleton] at q
    have e : (plEnds ks cs lg l).length = 1 := by
      unfold plEnds
      rw [if_neg (by omega)]
      rfl
    rw [e] at q
    have z : ∀ k : Nat, decide (k ∈ [l]) = decide (k = l) := fun k => decide_eq_decide.mpr List.mem_singleton
    have w : (js.filter fun j => decide (j.2.1 = l)).length = (js.filter ((fun e : End => decide (e.1 ∈ [l])) ∘ fun j : JRow => j.2)).length := congrArg List.length (List.filter_congr fun j _ => (z _).symm)
    omega
  refine List.nodup_iff_count.mpr fun x => ?_
  by_cases hx : x ∈ nonJ cs.length js
  · obtain ⟨a, b⟩ := List.mem_filter.mp (show x ∈ js.filter _ from hx)
    have b := of_decide_eq_true b
    have q := one x.2.1 (by omega) (pl x a).2
    have e : (nonJ cs.length js).count x = (js.filter fun j => decide (j.2.1 = x.2.1)).count x := by
      unfold nonJ
      rw [List.count_filter (p := fun j : JRow => decide (¬ j.2.1 < cs.length)) (decide_eq_true b), List.count_filter (p := fun j : JRow => decide (j.2.1 = x.2.1)) (decide_eq_true rfl)]
    rw [e]
    exact Nat.le_trans List.count_le_length q
  · rw [List.count_eq_zero_of_not_mem hx]
    exact Nat.zero_le _
/-- a place that no join has hangs for itself -/
theorem comps_lone {n : Nat} {es : List Edge} (h : ∀ e ∈ es, e.1 ≠ n ∧ e.2 ≠ n) : (comps (n + 1) es).length = (comps n es).length + 1 := by
  obtain ⟨K, nd, mm, lk⟩ := comps_keys n es
  obtain ⟨K', nd', mm', lk'⟩ := comps_keys (n + 1) es
  have lone : ∀ i, marks es i = marks es n → i = n := fun i q => by
    have z := marks_sat (S := fun k => k = n) es (fun e he => ⟨fun w => absurd w (h e he).1, fun w => absurd w (h e he).2⟩) i n q
    exact z.mpr rfl
  have nk : marks es n ∉ K := fun q => by
    obtain ⟨i, hi, e⟩ := (mm _).mp q
    have := lone i e
    omega
  have := same_len nd' (List.nodup_cons.mpr ⟨nk, nd⟩) fun k => by
    rw [mm' k, List.mem_cons, mm k]
    constructor
    · rintro ⟨i, hi, rfl⟩
      by_cases c : i < n
      · exact .inr ⟨i, c, rfl⟩
      · have : i = n := by omega
        rw [this]
        exact .inl rfl
    · rintro (rfl | ⟨i, hi, rfl⟩)
      · exact ⟨n, by omega, rfl⟩
      · exact ⟨i, by omega, rfl⟩
  rw [List.length_cons] at this
  omega
theorem comps_lones {m : Nat} {es : List Edge} (h : ∀ e ∈ es, e.1 < m ∧ e.2 < m) : ∀ d : Nat, (comps (m + d) es).length = (comps m es).length + d
  | 0 => rfl
  | d + 1 => by
    rw [← Nat.add_assoc, comps_lone fun e he => by have := h e he; omega, comps_lones h d]
    rfl
/-- what the corners and what the legs bring -/
theorem comps_legs {m d : Nat} {js : List JRow} (lo : LegOnce m js) (nd : (nonJ m js).Nodup) (pl : ∀ j ∈ js, j.1.1 < m + d ∧ j.2.1 < m + d) : (comps (m + d) (edges js)).length + (nonJ m js).length = (comps m (edges (innJ m js))).length + d := by
  have inn : ∀ x ∈ innJ m js, x ∈ js ∧ x.2.1 < m := fun x hx => by
    obtain ⟨a, b⟩ := List.mem_filter.mp (show x ∈ js.filter _ from hx)
    exact ⟨a, of_decide_eq_true b⟩
  have q := bridges (n := m + d) (js := js) (R := innJ m js) (fun x hx => (inn x hx).1) (nonJ m js) nd fun b hb => by
    obtain ⟨b1, b2⟩ := List.mem_filter.mp (show b ∈ js.filter _ from hb)
    have b2 := of_decide_eq_true b2
    refine ⟨fun z => b2 (inn b z).2, b1, (pl b b1).1, (pl b b1).2, fun e => ?_⟩
    have z := marks_sat (S := fun k => k = b.2.1) (edges (js.erase b)) (fun e he => by
      obtain ⟨x, hx, rfl⟩ := List.mem_map.mp he
      have hx2 := List.mem_of_mem_erase hx
      refine ⟨fun w => absurd w (lo.apart x hx2 b b1 (by omega)), fun w => ?_⟩
      have xb := lo.once x hx2 b b1 (by omega) w
      subst xb
      have c := List.nodup_iff_count.mp nd x
      unfold nonJ at c
      rw [List.count_filter (p := fun j : JRow => decide (¬ j.2.1 < m)) (decide_eq_true b2)] at c
      have c2 := List.count_erase_self (a := x) (l := js)
      have c3 := List.count_pos_iff.mpr hx
      omega) _ _ e
    exact lo.apart b b1 b b1 (by omega) (z.mpr rfl)
  have e : comps (m + d) (edges (innJ m js ++ nonJ m js)) = comps (m + d) (edges js) := comps_mem _ fun e => by
    constructor
    · intro he
      obtain ⟨x, hx, rfl⟩ := List.mem_map.mp he
      rcases List.mem_append.mp hx with w | w
      · exact edge_mem (inn x w).1
      · exact edge_mem (List.mem_filter.mp (show x ∈ js.filter _ from w)).1
    · intro he
      obtain ⟨x, hx, rfl⟩ := List.mem_map.mp he
      refine edge_mem (List.mem_append.mpr ?_)
      by_cases c : x.2.1 < m
      · exact .inl (List.mem_filter.mpr ⟨hx, decide_eq_true c⟩)
      · exact .inr (List.mem_filter.mpr ⟨hx, decide_eq_true c⟩)
  rw [e] at q
  rw [q]
  exact comps_lones (fun e he => by
    obtain ⟨x, hx, rfl⟩ := List.mem_map.mp he
    have := inn x hx
    have := lo.le x this.1
    dsimp only
    omega) d
/-- without one join: one part more where it is a cut -/
theorem comps_less {m n : Nat} {js : List JRow} {j : JRow} (h : j ∈ js) (pl : ∀ j ∈ js, j.1.1 < n ∧ j.2.1 < n) (jm : j.2.1 < m) : (comps n (edges (js.erase j))).length = (comps n (edges js)).length + (if j ∈ ctsJ m n js then 1 else 0) := by
  have q := ctsB_iff (m := m) h (pl j h).1 (pl j h).2
  by_cases c : j ∈ ctsJ m n js
  · have b := (List.mem_filter.mp (show j ∈ js.filter _ from c)).2
    have z := comps_more (n := n) (e := (j.1.1, j.2.1)) (pl j h).1 (pl j h).2 (q.mp b).1
    rw [if_pos c, erase_add n h]
    exact z.symm
  · rw [if_neg c, erase_add n h, comps_sameE]
    · rfl
    · refine Classical.not_not.mp fun w => c (List.mem_filter.mpr ⟨h, q.mpr ⟨w, jm⟩⟩)
/-- the cut drawing has as many parts as the joins without the one -/
theorem comps_cut {rows : Rows2} {ks : List KRow} {cs : List Str} {lg : Rows2} {js : List JRow} {j : JRow} {n1 n2 : Str} (mu : Mut rows) (gj : ∀ i ∈ js, GoodJ rows i) (pm : (js.map (·.1) ++ js.map (·.2)).Perm (allE ks cs lg)) (pl : ∀ i ∈ js, i.1.1 < cs.length + lg.length ∧ i.2.1 < cs.length + lg.length) (hj : j ∈ js) (jm : j.2.1 < cs.length)
    (gj' : ∀ i ∈ cutJ cs.length lg js j n1 n2, GoodJ rows i) (pm' : ((cutJ cs.length lg js j n1 n2).map (·.1) ++ (cutJ cs.length lg js j n1 n2).map (·.2)).Perm (allE ks cs (cutLegs lg j n1 n2))) (pl' : ∀ i ∈ cutJ cs.length lg js j n1 n2, i.1.1 < cs.length + (cutLegs lg j n1 n2).length ∧ i.2.1 < cs.length + (cutLegs lg j n1 n2).length) :
    (comps (cs.length + (cutLegs lg j n1 n2).length) (edges (cutJ cs.length lg js j n1 n2))).length = (comps (cs.length + lg.length) (edges (js.erase j))).length := by
  have ll : (cutLegs lg j n1 n2).length = lg.length + 2 := by
    unfold cutLegs
    rw [(sortR_perm _).length_eq, List.length_append]
    rfl
  have q1 := comps_legs (legOnce_of pm' gj' pl') (non_once pm' pl') pl'
  have lo := legOnce_of pm gj pl
  have sub : ∀ x ∈ js.erase j, x ∈ js := fun x hx => List.mem_of_mem_erase hx
  have q2 := comps_legs (lo.sub sub) (List.Nodup.sublist (List.Sublist.filter _ List.erase_sublist) (non_once pm pl)) fun x hx => pl x (sub x hx)
  have l1 := non_inn cs.length (js.erase j)
  have l2 := non_inn cs.length (cutJ cs.length lg js j n1 n2)
  have le := List.length_erase_of_mem hj
  have lp := List.length_pos_of_mem hj
  have pi : (innJ cs.length (cutJ cs.length lg js j n1 n2)).Perm (innJ cs.length (js.erase j)) := by
    have p := (sortJ_perm (cutL (js.erase j) (bsP 0 cs.length cs.length (cutLegs lg j n1 n2) lg) cs.length (cutLegs lg j n1 n2) j (n1, j.2.2) (n2, j.1.2))).filter fun x => decide (x.2.1 < cs.length)
    have e : ∀ L : List JRow, (∀ x ∈ L, x ∈ js) → (L.map (jmv (bsP 0 cs.length cs.length (cutLegs lg j n1 n2) lg))).filter (fun x => decide (x.2.1 < cs.length)) = L.filter fun x => decide (x.2.1 < cs.length) := by
      intro L
      induction L with
      | nil => exact fun _ => rfl
      | cons i L ih =>
        intro hL
        have ih := ih fun x hx => hL x (List.mem_cons_of_mem _ hx)
        have hi := hL i List.mem_cons_self
        have ile := join_le (gj i hi)
        rw [List.map_cons]
        by_cases c : i.2.1 < cs.length
        · have f1 : plE (bsP 0 cs.length cs.length (cutLegs lg j n1 n2) lg) i.1 = i.1 := Prod.ext (by show plN _ i.1.1 = i.1.1; rw [bsP_lo (by omega), Nat.zero_add]) rfl
          have f2 : plE (bsP 0 cs.length cs.length (cutLegs lg j n1 n2) lg) i.2 = i.2 := Prod.ext (by show plN _ i.2.1 = i.2.1; rw [bsP_lo c, Nat.zero_add]) rfl
          have z : jmv (bsP 0 cs.length cs.length (cutLegs lg j n1 n2) lg) i = i := by
            unfold jmv
            rw [f1, f2]
            exact jrow_le (p := (i.1, i.2)) (gj i hi).le
          rw [z, List.filter_cons_of_pos (by simpa using c), List.filter_cons_of_pos (by simpa using c), ih]
        · have g := join_le (jmv_good (pl := bsP 0 cs.length cs.length (cutLegs lg j n1 n2) lg) mu (gj i hi))
          have hp : cs.length ≤ plN (bsP 0 cs.length cs.length (cutLegs lg j n1 n2) lg) i.2.1 := by
            have e := legAt_of (lg := lg) (i := i.2.1 - cs.length) (by have := (pl i hi).2; omega)
            have q := bsP_hi (f := 0) (m := cs.length) (c := cs.length) (legs := cutLegs lg j n1 n2) e
            rw [show cs.length + (i.2.1 - cs.length) = i.2.1 by omega] at q
            omega
          have far : ¬ (jmv (bsP 0 cs.length cs.length (cutLegs lg j n1 n2) lg) i).2.1 < cs.length := by
            unfold jmv at g ⊢
            rcases jrow_two (plE (bsP 0 cs.length cs.length (cutLegs lg j n1 n2) lg) i.1, plE (bsP 0 cs.length cs.length (cutLegs lg j n1 n2) lg) i.2) with h | h
            · rw [h]
              show ¬ plN _ i.2.1 < cs.length
              omega
            · rw [h] at g ⊢
              have g : plN _ i.2.1 ≤ plN _ i.1.1 := g
              show ¬ plN _ i.1.1 < cs.length
              omega
          rw [List.filter_cons_of_neg (by simpa using far), List.filter_cons_of_neg (by simpa using c), ih]
    have e2 : (cutL (js.erase j) (bsP 0 cs.length cs.length (cutLegs lg j n1 n2) lg) cs.length (cutLegs lg j n1 n2) j (n1, j.2.2) (n2, j.1.2)).filter (fun x => decide (x.2.1 < cs.length)) = innJ cs.length (js.erase j) := by
      unfold cutL
      rw [List.filter_append, e _ sub, List.filter_cons_of_neg, List.filter_cons_of_neg, List.filter_nil, List.append_nil]
      · rfl
      · rw [decide_eq_true_eq]
        dsimp only
        omega
      · rw [decide_eq_true_eq]
        dsimp only
        omega
    rw [e2] at p
    exact p
  have li := pi.length_eq
  have lc : (cutJ cs.length lg js j n1 n2).length = (js.erase j).length + 2 := by
    unfold cutJ cutL
    rw [(sortJ_perm _).length_eq, List.length_append, List.length_map]
    rfl
  have ec := edges_perm cs.length pi
  rw [ec] at q1
  omega
end Toy
set_option Elab.async false
set_option linter.all false
set_option maxRecDepth 100000
set_option maxHeartbeats 4000000
namespace Toy
open PySem PySem.Spec PyProof.Rows L2
/-! ### sewing undoes cutting -/
theorem leR_anti {a b : Str × Str} (h1 : leR a b) (h2 : leR b a) : a = b := by
  unfold leR at h1 h2
  rcases h1 with h1 | ⟨e1, l1⟩
  · rcases h2 with h2 | ⟨e2, l2⟩
    · exact absurd h2 (List.lt_asymm h1)
    · rw [e2] at h1
      exact absurd h1 (List.lt_irrefl _)
  · rcases h2 with h2 | ⟨e2, l2⟩
    · rw [e1] at h2
      exact absurd h2 (List.lt_irrefl _)
    · exact Prod.ext (str_ext e1) (str_ext (List.le_antisymm l1 l2))
theorem sewn_legs {lg : Rows2} {j : JRow} {n1 n2 : Str} (pw : lg.Pairwise leR) (h1 : n1 ∉ lg.map (·.1)) (h2 : n2 ∉ lg.map (·.1)) {a b : Str} (ab : (a = n1 ∧ b = n2) ∨ (a = n2 ∧ b = n1)) : sewL (cutLegs lg j n1 n2) a b = lg := by
  have e : (lg ++ [(n1, j.2.2), (n2, j.1.2)]).filter (fun g => decide (g.1 ≠ a ∧ g.1 ≠ b)) = lg := by
    rw [List.filter_append, List.filter_eq_self.mpr fun g hg => ?_]
    · rw [List.filter_cons_of_neg, List.filter_cons_of_neg, List.filter_nil, List.append_nil]
      · rcases ab with ⟨rfl, rfl⟩ | ⟨rfl, rfl⟩ <;> simp
      · rcases ab with ⟨rfl, rfl⟩ | ⟨rfl, rfl⟩ <;> simp
    · have m := List.mem_map_of_mem (f := (·.1)) hg
      have x1 : g.1 ≠ n1 := fun e => h1 (by rw [← e]; exact m)
      have x2 : g.1 ≠ n2 := fun e => h2 (by rw [← e]; exact m)
      rcases ab with ⟨rfl, rfl⟩ | ⟨rfl, rfl⟩
      · exact decide_eq_true ⟨x1, x2⟩
      · exact decide_eq_true ⟨x2, x1⟩
  refine List.Perm.eq_of_pairwise (le := leR) (fun a b _ _ h1 h2 => leR_anti h1 h2) (List.Pairwise.filter _ (sortR_pw _)) pw ?_
  have p := (sortR_perm (lg ++ [(n1, j.2.2), (n2, j.1.2)])).filter fun g => decide (g.1 ≠ a ∧ g.1 ≠ b)
  rw [e] at p
  exact p
/-- there and back again -/
theorem back_again {m : Nat} {lg legs : Rows2} (nd : (lg.map (·.1)).Nodup) (sub : ∀ g ∈ lg, g ∈ legs) {p : Nat} (h : p < m + lg.length) : plN (bsP 0 m m lg legs) (plN (bsP 0 m m legs lg) p) = p := by
  by_cases c : p < m
  · rw [bsP_lo c, Nat.zero_add, bsP_lo c, Nat.zero_add]
  · have ndl : lg.Nodup := (List.pairwise_map.mp nd).imp fun h e => h (by rw [e])
    have e := legAt_of (lg := lg) (i := p - m) (by omega)
    have q := bsP_hi (f := 0) (m := m) (c := m) (legs := legs) e
    rw [show m + (p - m) = p by omega] at q
    have gm := sub _ (List.mem_of_getElem? e)
    have l := List.idxOf_lt_length_of_mem gm
    have e2 : legs[legs.idxOf (legAt lg (p - m))]? = some (legAt lg (p - m)) := by
      rw [List.getElem?_eq_getElem l]
      exact congrArg some (List.getElem_idxOf l)
    rw [q, bsP_hi e2]
    have e3 := (List.getElem?_eq_some_iff.mp e)
    obtain ⟨l3, e3⟩ := e3
    have z := ndl.idxOf_getElem (p - m) l3
    rw [e3] at z
    rw [z]
    omega
theorem jmv_back {rows : Rows2} {P Q : List Nat} {i : JRow} (gi : GoodJ rows i) (h1 : plN Q (plN P i.1.1) = i.1.1) (h2 : plN Q (plN P i.2.1) = i.2.1) : jmv Q (jmv P i) = i := by
  rw [jmv_jmv]
  have e1 : plE Q (plE P i.1) = i.1 := Prod.ext h1 rfl
  have e2 : plE Q (plE P i.2) = i.2 := Prod.ext h2 rfl
  rw [e1, e2]
  exact jrow_le (p := (i.1, i.2)) gi.le
theorem jmv_far {P : List Nat} {i : JRow} {a b : Nat} (h1 : plN P i.1.1 ≠ a ∧ plN P i.1.1 ≠ b) (h2 : plN P i.2.1 ≠ a ∧ plN P i.2.1 ≠ b) : farJ a b (jmv P i) = true := by
  unfold farJ jmv
  rcases jrow_two (plE P i.1, plE P i.2) with h | h
  · rw [h]
    exact decide_eq_true ⟨h1, h2⟩
  · rw [h]
    exact decide_eq_true ⟨h2, h1⟩
theorem sewn_joins {rows : Rows2} {m : Nat} {lg : Rows2} {js : List JRow} {j : JRow} {n1 n2 : Str} (G : LegsG rows lg) (h1 : n1 ∉ lg.map (·.1)) (h2 : n2 ∉ lg.map (·.1)) (n12 : n1 ≠ n2) (gj : ∀ i ∈ js, GoodJ rows i) (pl : ∀ i ∈ js, i.1.1 < m + lg.length ∧ i.2.1 < m + lg.length) (hj : j ∈ js) (jm : j.2.1 < m)
    {a b : Nat} (ab : (a = m + (cutLegs lg j n1 n2).idxOf (n1, j.2.2) ∧ b = m + (cutLegs lg j n1 n2).idxOf (n2, j.1.2)) ∨ (a = m + (cutLegs lg j n1 n2).idxOf (n2, j.1.2) ∧ b = m + (cutLegs lg j n1 n2).idxOf (n1, j.2.2))) {e1 e2 : End} (e12 : (e1 = j.1 ∧ e2 = j.2) ∨ (e1 = j.2 ∧ e2 = j.1)) :
    sortJ (sewJ m (cutLegs lg j n1 n2) lg a b e1 e2 (cutJ m lg js j n1 n2)) = sortJ js := by
  have pL : (cutLegs lg j n1 n2).Perm (lg ++ [(n1, j.2.2), (n2, j.1.2)]) := sortR_perm _
  have jle := join_le (gj j hj)
  generalize eL : cutLegs lg j n1 n2 = legs at pL ab ⊢
  have sub : ∀ g ∈ lg, g ∈ legs := fun g hg => pL.mem_iff.mpr (List.mem_append_left _ hg)
  have m1 : (n1, j.2.2) ∈ legs := pL.mem_iff.mpr (List.mem_append_right _ List.mem_cons_self)
  have m2 : (n2, j.1.2) ∈ legs := pL.mem_iff.mpr (List.mem_append_right _ (List.mem_cons_of_mem _ List.mem_cons_self))
  have idx : ∀ {g h : Str × Str}, g ∈ legs → h ∈ legs → g ≠ h → legs.idxOf g ≠ legs.idxOf h := fun {g h} hg hh ne e => ne (by
    have l1 := List.idxOf_lt_length_of_mem hg
    have l2 := List.idxOf_lt_length_of_mem hh
    rw [← List.getElem_idxOf l1, ← List.getElem_idxOf l2]
    congr 1)
  have far : ∀ p, p < m + lg.length → plN (bsP 0 m m legs lg) p ≠ a ∧ plN (bsP 0 m m legs lg) p ≠ b := fun p hp => by
    by_cases c : p < m
    · rw [bsP_lo c]
      rcases ab with ⟨rfl, rfl⟩ | ⟨rfl, rfl⟩ <;> omega
    · have e := legAt_of (lg := lg) (i := p - m) (by omega)
      have q := bsP_hi (f := 0) (m := m) (c := m) (legs := legs) e
      rw [show m + (p - m) = p by omega] at q
      have gm := List.mem_of_getElem? e
      have mm := List.mem_map_of_mem (f := (·.1)) gm
      have x1 := idx (sub _ gm) m1 fun e => h1 (by rw [e] at mm; exact mm)
      have x2 := idx (sub _ gm) m2 fun e => h2 (by rw [e] at mm; exact mm)
      rw [q]
      rcases ab with ⟨rfl, rfl⟩ | ⟨rfl, rfl⟩ <;> omega
  have lpl : ∀ i ∈ js.erase j, i.1.1 < m + lg.length ∧ i.2.1 < m + lg.length := fun i hi => pl i (List.mem_of_mem_erase hi)
  have i12 := idx m1 m2 fun e => n12 (congrArg Prod.fst e)
  refine sortJ_perm_eq ?_
  have p1 : (sewR a b (cutJ m lg js j n1 n2)).Perm ((js.erase j).map (jmv (bsP 0 m m legs lg))) := by
    have p := (sortJ_perm (cutL (js.erase j) (bsP 0 m m (cutLegs lg j n1 n2) lg) m (cutLegs lg j n1 n2) j (n1, j.2.2) (n2, j.1.2))).filter (farJ a b)
    rw [eL] at p
    have e : (cutL (js.erase j) (bsP 0 m m legs lg) m legs j (n1, j.2.2) (n2, j.1.2)).filter (farJ a b) = (js.erase j).map (jmv (bsP 0 m m legs lg)) := by
      unfold cutL
      rw [List.filter_append, List.filter_eq_self.mpr fun z hz => ?_]
      · rw [List.filter_cons_of_neg, List.filter_cons_of_neg, List.filter_nil, List.append_nil]
        · unfold farJ
          rw [decide_eq_true_eq]
          rintro ⟨_, x, y⟩
          dsimp only at x y
          rcases ab with ⟨rfl, rfl⟩ | ⟨rfl, rfl⟩ <;> omega
        · unfold farJ
          rw [decide_eq_true_eq]
          rintro ⟨_, x, y⟩
          dsimp only at x y
          rcases ab with ⟨rfl, rfl⟩ | ⟨rfl, rfl⟩ <;> omega
      · obtain ⟨i, hi, rfl⟩ := List.mem_map.mp hz
        exact jmv_far (far _ (lpl i hi).1) (far _ (lpl i hi).2)
    rw [e] at p
    unfold sewR cutJ
    rw [eL]
    exact p
  unfold sewJ
  refine ((p1.append_right _).map _).trans ?_
  rw [List.map_append, List.map_map]
  have e3 : (js.erase j).map (jmv (bsP 0 m m lg legs) ∘ jmv (bsP 0 m m legs lg)) = js.erase j := by
    refine (List.map_congr_left fun i hi => ?_).trans (List.map_id _)
    exact jmv_back (gj i (List.mem_of_mem_erase hi)) (back_again G.nd sub (lpl i hi).1) (back_again G.nd sub (lpl i hi).2)
  have e4 : [(e1, e2)].map (jmv (bsP 0 m m lg legs)) = [j] := by
    show [jmv _ (e1, e2)] = [j]
    have f1 : plE (bsP 0 m m lg legs) j.1 = j.1 := Prod.ext (by show plN _ j.1.1 = j.1.1; rw [bsP_lo (by omega), Nat.zero_add]) rfl
    have f2 : plE (bsP 0 m m lg legs) j.2 = j.2 := Prod.ext (by show plN _ j.2.1 = j.2.1; rw [bsP_lo jm, Nat.zero_add]) rfl
    have z : jrow (j.1, j.2) = j := jrow_le (p := (j.1, j.2)) (gj j hj).le
    rcases e12 with ⟨rfl, rfl⟩ | ⟨rfl, rfl⟩
    · show [jrow (plE _ j.1, plE _ j.2)] = [j]
      rw [f1, f2, z]
    · show [jrow (plE _ j.2, plE _ j.1)] = [j]
      rw [f1, f2, jrow_swap, z]
  rw [e3, e4]
  exact (List.perm_append_comm (l₁ := js.erase j) (l₂ := [j])).trans (List.perm_cons_erase hj).symm
theorem sew_back {rows : Rows2} {ks : List KRow} {cs : List Str} {lg : Rows2} {js : List JRow} {j : JRow} {n1 n2 : Str} (mu : Mut rows) (G : LegsG rows lg) (h1 : n1 ∉ lg.map (·.1)) (h2 : n2 ∉ lg.map (·.1)) (n12 : n1 ≠ n2) (gj : ∀ i ∈ js, GoodJ rows i) (pl : ∀ i ∈ js, i.1.1 < cs.length + lg.length ∧ i.2.1 < cs.length + lg.length) (srt : sortJ js = js) (hj : j ∈ js) (jm : j.2.1 < cs.length)
    (gj' : ∀ i ∈ cutJ cs.length lg js j n1 n2, GoodJ rows i) (pm' : ((cutJ cs.length lg js j n1 n2).map (·.1) ++ (cutJ cs.length lg js j n1 n2).map (·.2)).Perm (allE ks cs (cutLegs lg j n1 n2))) (pl' : ∀ i ∈ cutJ cs.length lg js j n1 n2, i.1.1 < cs.length + (cutLegs lg j n1 n2).length ∧ i.2.1 < cs.length + (cutLegs lg j n1 n2).length)
    {g1 g2 : Str × Str} (hg : (g1 = (n1, j.2.2) ∧ g2 = (n2, j.1.2)) ∨ (g1 = (n2, j.1.2) ∧ g2 = (n1, j.2.2))) :
    ∃ i1 i2 e1 e2, SewCase rows cs (cutLegs lg j n1 n2) (cutJ cs.length lg js j n1 n2) i1 i2 g1 g2 e1 e2 ∧ e1.1 ≠ cs.length + i2 ∧ (e1.2, e2.2) ∈ rows ∧ sewL (cutLegs lg j n1 n2) g1.1 g2.1 = lg ∧ sortJ (sewJ cs.length (cutLegs lg j n1 n2) (sewL (cutLegs lg j n1 n2) g1.1 g2.1) (cs.length + i1) (cs.length + i2) e1 e2 (cutJ cs.length lg js j n1 n2)) = js := by
  have pL : (cutLegs lg j n1 n2).Perm (lg ++ [(n1, j.2.2), (n2, j.1.2)]) := sortR_perm _
  have jle := join_le (gj j hj)
  have m1 : (n1, j.2.2) ∈ cutLegs lg j n1 n2 := pL.mem_iff.mpr (List.mem_append_right _ List.mem_cons_self)
  have m2 : (n2, j.1.2) ∈ cutLegs lg j n1 n2 := pL.mem_iff.mpr (List.mem_append_right _ (List.mem_cons_of_mem _ List.mem_cons_self))
  have at_ : ∀ {g : Str × Str}, g ∈ cutLegs lg j n1 n2 → (cutLegs lg j n1 n2)[(cutLegs lg j n1 n2).idxOf g]? = some g := fun {g} h => by
    have l := List.idxOf_lt_length_of_mem h
    rw [List.getElem?_eq_getElem l]
    exact congrArg some (List.getElem_idxOf l)
  have c1 : (j.1, (cs.length + (cutLegs lg j n1 n2).idxOf (n1, j.2.2), j.2.2)) ∈ cutJ cs.length lg js j n1 n2 := (sortJ_perm _).mem_iff.mpr (List.mem_append_right _ List.mem_cons_self)
  have c2 : (j.2, (cs.length + (cutLegs lg j n1 n2).idxOf (n2, j.1.2), j.1.2)) ∈ cutJ cs.length lg js j n1 n2 := (sortJ_perm _).mem_iff.mpr (List.mem_append_right _ (List.mem_cons_of_mem _ List.mem_cons_self))
  have lo := legOnce_of pm' gj' pl'
  have far : ∀ {p : Nat} {s s' : Str} {e f : End}, cs.length ≤ p → (((p, s), e) ∈ cutJ cs.length lg js j n1 n2 ∨ (e, (p, s)) ∈ cutJ cs.length lg js j n1 n2) → (f, (p, s')) ∈ cutJ cs.length lg js j n1 n2 → e = f := fun {p s s' e f} hp h hf => by
    rcases h with h | h
    · exact absurd rfl (lo.apart _ h _ hf hp)
    · exact congrArg Prod.fst (lo.once _ h _ hf hp rfl)
  have ne : (n1, j.2.2) ≠ (n2, j.1.2) := fun e => n12 (congrArg Prod.fst e)
  have idx : (cutLegs lg j n1 n2).idxOf (n1, j.2.2) ≠ (cutLegs lg j n1 n2).idxOf (n2, j.1.2) := fun e => ne (by
    have q := at_ m1
    rw [e, at_ m2] at q
    exact (Option.some.inj q).symm)
  rcases hg with ⟨rfl, rfl⟩ | ⟨rfl, rfl⟩
  · obtain ⟨e1, e2, S⟩ := sew_at pm' (at_ m1) (at_ m2)
    have x1 := far (by omega) S.r1 c1
    have x2 := far (by omega) S.r2 c2
    have eL := sewn_legs (lg := lg) (j := j) (n1 := n1) (n2 := n2) (a := n1) (b := n2) G.pw h1 h2 (.inl ⟨rfl, rfl⟩)
    refine ⟨_, _, e1, e2, ⟨at_ m1, at_ m2, idx, S⟩, by rw [x1]; omega, by rw [x1, x2]; exact (gj j hj).pr, eL, ?_⟩
    show sortJ (sewJ cs.length (cutLegs lg j n1 n2) (sewL (cutLegs lg j n1 n2) n1 n2) _ _ e1 e2 _) = js
    rw [eL, sewn_joins G h1 h2 n12 gj pl hj jm (.inl ⟨rfl, rfl⟩) (.inl ⟨x1, x2⟩), srt]
  · obtain ⟨e1, e2, S⟩ := sew_at pm' (at_ m2) (at_ m1)
    have x1 := far (by omega) S.r1 c2
    have x2 := far (by omega) S.r2 c1
    have eL := sewn_legs (lg := lg) (j := j) (n1 := n1) (n2 := n2) (a := n2) (b := n1) G.pw h1 h2 (.inr ⟨rfl, rfl⟩)
    refine ⟨_, _, e1, e2, ⟨at_ m2, at_ m1, idx.symm, S⟩, by rw [x1]; omega, by rw [x1, x2]; exact mu.mt _ (gj j hj).pr, eL, ?_⟩
    show sortJ (sewJ cs.length (cutLegs lg j n1 n2) (sewL (cutLegs lg j n1 n2) n2 n1) _ _ e1 e2 _) = js
    rw [eL, sewn_joins G h1 h2 n12 gj pl hj jm (.inr ⟨rfl, rfl⟩) (.inr ⟨x1, x2⟩), srt]
end Toy
set_option Elab.async false
set_option linter.all false
set_option maxRecDepth 100000
set_option maxHeartbeats 4000000
namespace Toy
open PySem PySem.Spec PyProof.Rows L2
theorem any_join (js : List JRow) (j : JRow) : ((js.map joinT).any fun z => PyData.eqv z (joinT j)) = decide (j ∈ js) := by
  rw [Bool.eq_iff_iff, List.any_eq_true, decide_eq_true_eq]
  constructor
  · rintro ⟨d, hd, e⟩
    obtain ⟨i, hi, rfl⟩ := List.mem_map.mp hd
    rw [eqv_join, decide_eq_true_eq] at e
    rwa [← e]
  · exact fun h => ⟨_, List.mem_map_of_mem h, by rw [eqv_join]; exact decide_eq_true rfl⟩
theorem comps_small {n : Nat} {es : List Edge} : (comps n es).length ≤ n ∧ ∀ r ∈ comps n es, r.length ≤ n := by
  have := rows_len (marks es) n (List.range n) (by rw [List.length_range]; exact Nat.le_refl _)
  rw [List.length_range] at this
  exact this
def spRight48 (C D : Addr) : Sp := fun vs H Q _ => ∃ (y x tj t3 : Addr) (rows : Rows2) (ks : List KRow) (cs : List Str) (lg : Rows2) (gs ws : List V) (js : List JRow) (j : JRow) (n1 n2 : Str), vs = [.ref y, .ref tj, .ref t3] ∧ DrG C D H y x rows ks cs lg gs ws js ∧ GoodS rows ∧ GoodK (rows.map (·.1)) ks ∧ Mut rows ∧ LegsG rows lg ∧
  TupAt H tj (joinV j) ∧ j ∈ js ∧ j.2.1 < cs.length ∧ TupAt H t3 [.str n1, .str n2] ∧ nameS n1 = true ∧ nameS n2 = true ∧ n1 ≠ n2 ∧ n1 ∉ lg.map (·.1) ∧ n2 ∉ lg.map (·.1) ∧ lg.length + 2 ≤ 6 ∧ ∀ H', Same H H' → Q (.bl true) H'
section
variable {P : Program} {w : World} {K : PySem.W.Frag} {mg : Str → Option Value} {base : Heap}
abbrev riN : List Str := ["_law_drawing_here", "_law_join", "_law_names_here", "_law_found", "_law_more"]
theorem scRight : FnScope riN ["_law_drawing_here", "_law_join", "_law_names_here"] (defScope sRight) := ⟨rfl, rfl, rfl, by decide +kernel, rfl, by decide +kernel, by decide +kernel⟩
theorem ok_right {f fC fCU fIW fPS fJ fE C D CJ : Addr} {fd fdC fdCU fdIW fdPS fdJ fdE : FuncData} (F : Fun K "_law_right" "_law_right" sRight f fd) (M : Mods mg) (TD : DrC K mg D) (TE : DrE K D) (EQD : EqC K D fE) (nfD : PySem.W.notFirst K D (.ref D) = true) (mInt : mg "int" = none)
    (GC : FnOk P w K mg base (L2.CX P w) 7 fC fdC ["drawing", "join", "names"] (spCut C D)) (kC : PySem.W.keepIn K (.ref fC) = true) (bC : Binds K fdC ["drawing", "join", "names"] []) (gC : mg "cut" = some (.ref fC))
    (GCU : FnOk P w K mg base CX0 2 fCU fdCU ["drawing"] (spCuts C D)) (kCU : PySem.W.keepIn K (.ref fCU) = true) (bCU : Binds K fdCU ["drawing"] []) (gCU : mg "cuts" = some (.ref fCU))
    (GIW : FnOk P w K mg base CX0 2 fIW fdIW ["drawing"] (spIsWhole C D)) (kIW : PySem.W.keepIn K (.ref fIW) = true) (bIW : Binds K fdIW ["drawing"] []) (gIW : mg "is_whole" = some (.ref fIW))
    (GPS : FnOk P w K mg base (L2.CX P w) 8 fPS fdPS ["drawing"] (spParts C D)) (kPS : PySem.W.keepIn K (.ref fPS) = true) (bPS : Binds K fdPS ["drawing"] []) (gPS : mg "parts" = some (.ref fPS))
    (GJ : FnOk P w K mg base (L2.CX P w) 7 fJ fdJ ["drawing", "one", "other"] (spJoinLegs C D CJ)) (kJ : PySem.W.keepIn K (.ref fJ) = true) (bJ : Binds K fdJ ["drawing", "one", "other"] []) (gJ : mg "join_legs" = some (.ref fJ))
    (GE : FnOk P w K mg base CX0 2 fE fdE ["self", "other"] (spDEqG K C D)) (bE : Binds K fdE ["self", "other"] []) :
    FnOk P w K mg base CX0 9 f fd ["_law_drawing_here", "_law_join", "_law_names_here"] (spRight48 C D) := by
  refine F.ok scRight (fun vs H Q E h => ?_) (fun cdv A outer s H vs Q E hr h => ?_)
  · obtain ⟨y, x, tj, t3, rows, ks, cs, lg, gs, ws, js, j, n1, n2, rfl, _⟩ := h
    rfl
  · obtain ⟨y, x, tj, t3, rows, ks, cs, lg, gs, ws, js, j, n1, n2, rfl, DG, gd, gk, mu, LG, tq, hj, jm, tn, m1, m2, nn, f1, f2, l4, k⟩ := h
    have hr8 : Room 8 (A.deeper (envOfC "_law_right" (defScope sRight) s.heap.objs.size f cdv)) := hr
    have hr7 : Room 7 (A.deeper (envOfC "_law_right" (defScope sRight) s.heap.objs.size f cdv)) := hr.mono (by decide)
    have hr3 : Room 3 (A.deeper (envOfC "_law_right" (defScope sRight) s.heap.objs.size f cdv)) := hr.mono (by decide)
    have hr2 : Room 2 (A.deeper (envOfC "_law_right" (defScope sRight) s.heap.objs.size f cdv)) := hr.mono (by decide)
    have hu65 : (A.deeper (envOfC "_law_right" (defScope sRight) s.heap.objs.size f cdv)).units + 65 < cLine := by
      have := hr.un
      omega
    refine ⟨_, (pss_cons (ps_set (i := 3) scRight.nd rfl (Or.inl rfl) (pe_callS (E := noE) GC hr7 (by rfl) gC kC bC (fun σ => passN σ) (pa_cons (pv 0) (pa_cons (pv 1) (pa_cons (pv 2) pa_nil)))))
      (pss_cons (ps_set (i := 4) scRight.nd rfl (Or.inl rfl) (pe_callTy call_int1 (by rfl) mInt (by decide +kernel) (pa_cons (pe_cmpR (op_inD hu65) (pv 1) (pe_call GCU hr2 (by rfl) gCU kCU bCU .nil pass0 (pa_cons (pv 0) pa_nil)) (by rfl)) pa_nil)))
      (pss_cons (ps_if (PW.pt (pw_or (pt_cmpR op_ne (pe_callB call_len_seq (by rfl) M.len PySem.boot_len (pa_cons (pe_fld (pv 3) rfl) pa_nil)) (pe_op op_add (pe_callB call_len_seq (by rfl) M.len PySem.boot_len (pa_cons (pe_fld (pv 0) rfl) pa_nil)) pe_int) (nomark _)) (pw_or1 (pt_cmpR op_ne (pe_callB call_len_seq (by rfl) M.len PySem.boot_len (pa_cons (pe_callS (E := noE) GPS hr8 (by rfl) gPS kPS bPS (fun σ => passN σ) (pa_cons (pv 3) pa_nil)) pa_nil)) (pe_op op_add (pe_callB call_len_seq (by rfl) M.len PySem.boot_len (pa_cons (pe_callS (E := noE) GPS hr8 (by rfl) gPS kPS bPS (fun σ => passN σ) (pa_cons (pv 0) pa_nil)) pa_nil)) (pv 4)) (nomark _))))) (pss_one (ps_ret pe_bl)) pss_nil)
      (pss_cons (ps_if (pt_cmpR op_ne (pe_call GIW hr2 (by rfl) gIW kIW bIW .nil pass0 (pa_cons (pv 3) pa_nil)) (pe_and (pe_call GIW hr2 (by rfl) gIW kIW bIW .nil pass0 (pa_cons (pv 0) pa_nil)) (pe_one (pe_cmpR op_eq (pv 4) pe_int (nomark _)))) (nomark _)) (pss_one (ps_ret pe_bl)) pss_nil)
      (pss_one (ps_ret (pe_and (pe_cmpR (op_eqO EQD GE hr2 bE pass0) (pe_callS (E := noE) GJ hr7 (by rfl) gJ kJ bJ (fun σ => passN σ) (pa_cons (pv 3) (pa_cons (pe_ix ix_tup (pv 2) pe_int (fun _ _ => rfl)) (pa_cons (pe_ix ix_tup (pv 2) pe_int (fun _ _ => rfl)) pa_nil)))) (pv 0) (nomark _)) (pe_one (pe_cmpR (op_eqO EQD GE hr2 bE pass0) (pe_callS (E := noE) GJ hr7 (by rfl) gJ kJ bJ (fun σ => passN σ) (pa_cons (pv 3) (pa_cons (pe_ix ix_tup (pv 2) pe_int (fun _ _ => rfl)) (pa_cons (pe_ix ix_tup (pv 2) pe_int (fun _ _ => rfl)) pa_nil)))) (pv 0) (nomark _)))))))))), ?_⟩
    obtain ⟨dx, l1, l2, l3, hx, DI⟩ := id DG
    have plc := DI.places
    have gj := DI.gj
    have srt := DI.sorted
    have lw := DI.ja.len
    have lw40 := DI.lw
    have pm := DI.perm
    have c6 := DI.l6
    refine ⟨_, rfl, _, rfl, _, rfl, y, x, tj, t3, rows, ks, cs, lg, gs, ws, js, j, n1, n2, rfl, DG, gd, gk, mu, LG, tq, hj, jm, tn, m1, m2, nn, f1, f2, l4, fun z gs' ws' H1 nz DZ s1 => ?_⟩
    obtain ⟨dz, a1, a2, a3, hz, DIZ⟩ := id DZ
    have plc' := DIZ.places
    have gj' := DIZ.gj
    have pm' := DIZ.perm
    have ecut := (comps_cut mu gj pm plc hj jm gj' pm' plc').trans (comps_less hj plc jm)
    have pos : 1 ≤ (comps (cs.length + lg.length) (edges js)).length := by
      obtain ⟨K, _, mm, lk⟩ := comps_keys (cs.length + lg.length) (edges js)
      have := List.length_pos_of_mem ((mm _).mpr ⟨j.1.1, (plc j hj).1, rfl⟩)
      omega
    have sew := fun {g1 g2 : Str × Str} hg => sew_back (g1 := g1) (g2 := g2) mu LG f1 f2 nn gj plc srt hj jm gj' pm' plc' hg
    have ll : (cutLegs lg j n1 n2).length = lg.length + 2 := by
      unfold cutLegs
      rw [(sortR_perm _).length_eq, List.length_append]
      rfl
    have LGZ := legsg_of DIZ.lok
    -- CUT1
    refine ⟨_, rfl, _, rfl, y, x, rows, ks, cs, lg, gs, ws, js, rfl, DG.same s1, fun q0 wf0 H2 s2 hq0 jv0 nq0 => ?_⟩
    have s02 := s1.trans s2
    have lc80 : (ctsJ cs.length (cs.length + lg.length) js).length ≤ 80 := Nat.le_trans (List.length_filter_le _ _) (by omega)
    have csub : ∀ i ∈ ctsJ cs.length (cs.length + lg.length) js, i ∈ js := fun i hi => (List.mem_filter.mp (show i ∈ js.filter _ from hi)).1
    have d0 : Dt H2 (.ref q0) (.list ((ctsJ cs.length (cs.length + lg.length) js).map joinT)) := .lst hq0 (by rw [jv0.len]; omega) (jv0.dt fun i hi => gj i (csub i hi))
    have dj := dt_join (gj j hj) (tq.same s02)
    refine ⟨joinT j, (ctsJ cs.length (cs.length + lg.length) js).map joinT, dj.dp (low_joinT j).nd, d0.dp (low_joins _).nd, shape_of dj (low_joinT j), shape_of d0 (low_joins _), ?_⟩
    rw [any_join]
    refine .inr ⟨_, rfl, ?_⟩
    have em : (if decide (j ∈ ctsJ cs.length (cs.length + lg.length) js) = true then (1 : Int) else 0) = (((if j ∈ ctsJ cs.length (cs.length + lg.length) js then 1 else 0 : Nat)) : Int) := by
      by_cases c : j ∈ ctsJ cs.length (cs.length + lg.length) js
      · rw [if_pos (decide_eq_true c), if_pos c]
        rfl
      · rw [if_neg (by rw [decide_eq_false c]; decide), if_neg c]
        rfl
    rw [em]
    have mo1 : (if j ∈ ctsJ cs.length (cs.length + lg.length) js then 1 else 0 : Nat) ≤ 1 := by
      by_cases c : j ∈ ctsJ cs.length (cs.length + lg.length) js
      · rw [if_pos c]; exact Nat.le_refl _
      · rw [if_neg c]; exact Nat.zero_le _
    generalize (if j ∈ ctsJ cs.length (cs.length + lg.length) js then 1 else 0 : Nat) = more at ecut mo1 ⊢
    have DZ2 := DZ.same s2
    have DG2 := DG.same s02
    clear d0 dj hq0 jv0 nq0
    -- CUT2
    refine gn_go ?_
    dsimp only
    refine seq_rest (t := tIfS _ _ _) (fun σ' H' => σ' = [some (V.ref y), some (.ref tj), some (.ref t3), some (.ref z), some (.int (more : Nat))] ∧ Same H2 H') (fun rest => ?_) ?_
    · obtain ⟨dz, a1, a2, a3, hz, DIZ⟩ := id DZ2
      obtain ⟨dx, l1, l2, l3, hx, DI⟩ := id DG2
      have g1 : gs'.length = (cutLegs lg j n1 n2).length := by
        obtain ⟨gv, e, _, r⟩ := dt_list DIZ.dg
        rw [DIZ.hg] at e
        injection e with e
        injection e with e
        subst e
        rw [r.len, List.length_map]
      have g2 : gs.length = lg.length := by
        obtain ⟨gv, e, _, r⟩ := dt_list DI.dg
        rw [DI.hg] at e
        injection e with e
        injection e with e
        subst e
        rw [r.len, List.length_map]
      refine ⟨_, rfl, z, D, dz, _, _, rfl, hz, TD.cl, TD.nL, df_legs _ _ _ _, a2, _, rfl, .inl (SqL.of DIZ.hg), _, rfl, y, D, dx, _, _, rfl, hx, TD.cl, TD.nL, df_legs _ _ _ _, l2, _, rfl, .inl (SqL.of DI.hg), _, _, rfl, rfl, rfl, _, rfl, ?_⟩
      try dsimp only
      rw [g1, g2, ll, if_neg (by simp)]
      refine ⟨_, rfl, z, x, rows, ks, cs, cutLegs lg j n1 n2, gs', ws', cutJ cs.length lg js j n1 n2, rfl, DZ2, gd, gk, mu, fun p1 zs1 H3 n1' s3 hp1 pa1 => ?_⟩
      refine ⟨p1, _, rfl, .inl (SqL.of hp1), ?_⟩
      have e1 : (zs1.map V.ref).length = (comps (cs.length + (cutLegs lg j n1 n2).length) (edges (cutJ cs.length lg js j n1 n2))).length := by
        rw [List.length_map]
        exact (show Paired _ zs1 _ from pa1).length
      refine ⟨_, rfl, y, x, rows, ks, cs, lg, gs, ws, js, rfl, DG2.same s3, gd, gk, mu, fun p2 zs2 H4 n2' s4 hp2 pa2 => ?_⟩
      refine ⟨p2, _, rfl, .inl (SqL.of hp2), _, rfl, _, _, rfl, rfl, rfl, ?_⟩
      have e2 : (zs2.map V.ref).length = (comps (cs.length + lg.length) (edges js)).length := by
        rw [List.length_map]
        exact (show Paired _ zs2 _ from pa2).length
      refine ⟨_, rfl, ?_⟩
      try dsimp only
      rw [e1, e2, ecut, if_neg (by simp)]
      exact rest _ _ ⟨rfl, s3.trans s4⟩
    rintro _ H3 ⟨rfl, s3⟩
    have DZ3 := DZ2.same s3
    have DG3 := DG2.same s3
    -- CUT3
    refine seq_rest (t := tIfS _ _ _) (fun σ' H' => σ' = [some (V.ref y), some (.ref tj), some (.ref t3), some (.ref z), some (.int (more : Nat))] ∧ Same H3 H') (fun rest => ?_) ?_
    · refine ⟨_, rfl, z, x, rows, ks, cs, cutLegs lg j n1 n2, gs', ws', cutJ cs.length lg js j n1 n2, rfl, DZ3, fun H4 s4 => ?_⟩
      refine ⟨_, rfl, y, x, rows, ks, cs, lg, gs, ws, js, rfl, DG3.same s4, fun H5 s5 => ?_⟩
      refine ⟨_, rfl, ?_⟩
      by_cases w : (comps (cs.length + lg.length) (edges js)).length = 1
      · rw [if_pos (decide_eq_true w)]
        refine ⟨_, rfl, rfl, rfl, _, rfl, ?_⟩
        have e3 : decide ((comps (cs.length + (cutLegs lg j n1 n2).length) (edges (cutJ cs.length lg js j n1 n2))).length = 1) = decide (V.int (more : Nat) = V.int 0) := decide_eq_decide.mpr ⟨fun h => by
          have : more = 0 := by omega
          rw [this]
          rfl, fun h => by
          injection h with h
          omega⟩
        try dsimp only
        rw [e3, if_neg (by simp)]
        exact rest _ _ ⟨rfl, s4.trans s5⟩
      · rw [if_neg (by simpa using w)]
        refine ⟨rfl, _, rfl, ?_⟩
        have e3 : ¬ (comps (cs.length + (cutLegs lg j n1 n2).length) (edges (cutJ cs.length lg js j n1 n2))).length = 1 := by omega
        try dsimp only
        rw [decide_eq_false e3, if_neg (by simp)]
        exact rest _ _ ⟨rfl, s4.trans s5⟩
    rintro _ H4 ⟨rfl, s4⟩
    have DZ4 := DZ3.same s4
    have DG4 := DG3.same s4
    have tn4 := tn.same ((s02.trans s3).trans s4)
    -- CUT4
    obtain ⟨i1, i2, e1, e2, S, x1, x2, eL, eJ⟩ := sew (.inl ⟨rfl, rfl⟩)
    obtain ⟨i1', i2', e1', e2', S', x1', x2', eL', eJ'⟩ := sew (.inr ⟨rfl, rfl⟩)
    refine ⟨_, rfl, _, rfl, t3, _, 0, _, rfl, rfl, tn4.sq, ix0, _, rfl, t3, _, 1, _, rfl, rfl, tn4.sq, ix1, z, x, rows, ks, cs, cutLegs lg j n1 n2, gs', ws', cutJ cs.length lg js j n1 n2, i1, i2, (n1, j.2.2), (n2, j.1.2), e1, e2, rfl, DZ4, gd, gk, mu, LGZ, S, fun h => ?_, fun _ _ z2 gs2 ws2 H5 nz2 DZ5 s5 => ?_⟩
    · exact absurd x2 (h.elim (fun h => absurd h x1) id)
    rw [eJ] at DZ5
    have eL : sewL (cutLegs lg j n1 n2) n1 n2 = lg := eL
    rw [show sewL (cutLegs lg j n1 n2) (n1, j.2.2).1 (n2, j.1.2).1 = lg from eL] at DZ5
    have dr1 := DZ5.at_
    have dr2 := (DG4.same s5).at_
    refine ⟨_, rfl, ?_⟩
    refine eqDr TD TE nfD dr1 dr2 true true rfl (eqB5_self dr1) ⟨_, rfl, ?_⟩
    rw [if_pos rfl]
    have DZ6 := DZ4.same s5
    have tn6 := tn4.same s5
    refine ⟨_, rfl, _, rfl, t3, _, 1, _, rfl, rfl, tn6.sq, ix1, _, rfl, t3, _, 0, _, rfl, rfl, tn6.sq, ix0, z, x, rows, ks, cs, cutLegs lg j n1 n2, gs', ws', cutJ cs.length lg js j n1 n2, i1', i2', (n2, j.1.2), (n1, j.2.2), e1', e2', rfl, DZ6, gd, gk, mu, LGZ, S', fun h => ?_, fun _ _ z3 gs3 ws3 H6 nz3 DZ7 s6 => ?_⟩
    · exact absurd x2' (h.elim (fun h => absurd h x1') id)
    rw [eJ'] at DZ7
    have eL' : sewL (cutLegs lg j n1 n2) n2 n1 = lg := eL'
    rw [show sewL (cutLegs lg j n1 n2) (n2, j.1.2).1 (n1, j.2.2).1 = lg from eL'] at DZ7
    have dr3 := DZ7.at_
    have dr4 := ((DG4.same s5).same s6).at_
    refine ⟨_, rfl, ?_⟩
    refine eqDr TD TE nfD dr3 dr4 true true rfl (eqB5_self dr3) ?_
    exact k _ ((((s02.trans s3).trans s4).trans s5).trans s6)
end
end Toy
set_option Elab.async false
set_option linter.all false
set_option maxRecDepth 100000
set_option maxHeartbeats 4000000
namespace Toy
open PySem PySem.Spec PyProof.Rows L2
def spMade (C D : Addr) : Sp := fun vs H Q _ => ∃ (a t c g u : Addr) (rows : Rows2) (ks : List KRow) (cs : List Str) (lg : Rows2) (gs ws : List V) (js : List JRow), vs = [.ref a, .ref t] ∧ DrawIn C H a c g u rows ks cs lg gs ws js ∧ TupAt H t [.ref c, .ref g, .ref u] ∧
  ∀ (z : Addr) (H0 H' : Hp), H z = none → DrNew D H0 H' z a cs gs ws → Same H H' → Q (.ref z) H'
section
variable {P : Program} {w : World} {K : PySem.W.Frag} {mg : Str → Option Value} {base : Heap}
abbrev maN : List Str := ["_law_stock_here", "_law_drawn"]
theorem scMade : FnScope maN ["_law_stock_here", "_law_drawn"] (defScope sMade) := ⟨rfl, rfl, rfl, by decide +kernel, rfl, by decide +kernel, by decide +kernel⟩
theorem ok_made {f fI C D : Addr} {fd fdI : FuncData} (F : Fun K "_law_made" "_law_made" sMade f fd) (M : Mods mg) (TD : DrC K mg D) (makD : Mk K D fI)
    (GI : FnOk P w K mg base (L2.CX P w) 5 fI fdI ["self", "stock", "corners", "legs", "joins"] (spDInit C D)) (bI : Binds K fdI ["self", "stock", "corners", "legs", "joins"] []) :
    FnOk P w K mg base (L2.CX P w) 7 f fd ["_law_stock_here", "_law_drawn"] (spMade C D) := by
  refine F.okX scMade (fun vs H Q E h => ?_) (fun cdv A outer s H vs Q E hr h => ?_)
  · obtain ⟨a, t, c, g, u, rows, ks, cs, lg, gs, ws, js, rfl, _⟩ := h
    rfl
  · obtain ⟨a, t, c, g, u, rows, ks, cs, lg, gs, ws, js, rfl, DI, tt, k⟩ := h
    refine ⟨_, (pss_one (ps_ret (pe_makeS (E := noE) makD GI hr (by rfl) TD.mgD bI (fun σ => passN σ) (pa_cons (pv 0) (pa_cons (pe_callTy call_list_of (by rfl) M.lst_ (by decide +kernel) (pa_cons (pe_ix ix_tup (pv 1) pe_int (fun _ _ => rfl)) pa_nil)) (pa_cons (pe_callTy call_list_of (by rfl) M.lst_ (by decide +kernel) (pa_cons (pe_ix ix_tup (pv 1) pe_int (fun _ _ => rfl)) pa_nil)) (pa_cons (pe_callTy call_list_of (by rfl) M.lst_ (by decide +kernel) (pa_cons (pe_ix ix_tup (pv 1) pe_int (fun _ _ => rfl)) pa_nil)) pa_nil))))))), ?_⟩
    refine ⟨_, rfl, _, rfl, t, _, 0, _, rfl, rfl, tt.sq, ix0, c, _, rfl, .inl (SqL.of DI.hc), fun c2 nc => ?_⟩
    have x1 := same_new (o := .lst (cs.map V.str)) nc
    have hc2 : upd H c2 (.lst (cs.map V.str)) c2 = some (.lst (cs.map V.str)) := upd_same
    have DI := DI.same x1
    have tt := tt.same x1
    generalize upd H c2 (.lst (cs.map V.str)) = H1 at x1 hc2 DI tt ⊢
    refine ⟨_, rfl, t, _, 1, _, rfl, rfl, tt.sq, ix1, g, _, rfl, .inl (SqL.of DI.hg), fun g2 ng => ?_⟩
    have x2 := same_new (o := .lst gs) ng
    have hg2 : upd H1 g2 (.lst gs) g2 = some (.lst gs) := upd_same
    have DI := DI.same x2
    have tt := tt.same x2
    have hc2 := x2 _ _ hc2
    have x1 := x1.trans x2
    generalize upd H1 g2 (.lst gs) = H2 at x1 x2 hc2 hg2 DI tt ⊢
    refine ⟨_, rfl, t, _, 2, _, rfl, rfl, tt.sq, ix2, u, _, rfl, .inl (SqL.of DI.hl), fun u2 nu => ?_⟩
    have x3 := same_new (o := .lst ws) nu
    have hu2 : upd H2 u2 (.lst ws) u2 = some (.lst ws) := upd_same
    have DI := DI.same x3
    have hc2 := x3 _ _ hc2
    have hg2 := x3 _ _ hg2
    have x1 := x1.trans x3
    generalize upd H2 u2 (.lst ws) = H3 at x1 x3 hc2 hg2 hu2 DI ⊢
    have dg2 : Dt H3 (.ref g2) (.list (lg.map rowT)) := by
      obtain ⟨gv, eg, l, rg⟩ := dt_list DI.dg
      rw [DI.hg] at eg
      injection eg with eg
      injection eg with eg
      subst eg
      exact .lst hg2 l rg
    have DI2 : DrawIn C H3 a c2 g2 u2 rows ks cs lg gs ws js := ⟨DI.sg, DI.k5, hc2, DI.l6, DI.hcs, DI.ncs, hg2, dg2, DI.lok, DI.lg6, DI.nam, hu2, DI.lw, DI.ja, DI.gj, DI.srt, DI.srt2⟩
    exact fun z dz nz ndz nez => make_drw nz ndz nez DI2 fun HF dn sF => ⟨rfl, k z H3 HF (x1.free nz) dn (x1.trans sF)⟩
end
end Toy
set_option Elab.async false
set_option linter.all false
set_option maxRecDepth 100000
set_option maxHeartbeats 4000000
namespace Toy
open PySem PySem.Spec PyProof.Rows L2
def spLaw (K : PySem.W.Frag) : Sp := fun vs H Q _ => ∃ (a : Addr) (ns : List Int), vs = [.ref a] ∧ SqL K H a (ns.map V.int) ∧ ns.length ≤ 63 ∧ ∀ H', Q (.bl true) H'
theorem DrNew.drg2 {C D : Addr} {H0 H : Hp} {x a c g l : Addr} {rows : Rows2} {ks : List KRow} {cs : List Str} {lg : Rows2} {gs ws : List V} {js : List JRow} (d : DrNew D H0 H x a cs gs ws) (D2 : DrawIn C H a c g l rows ks cs lg gs ws js) : DrG C D H x a rows ks cs lg gs ws js := by
  obtain ⟨dx, l1, l2, l3, n0, n1, n2, n3, e0, e1, e2, e3⟩ := d
  obtain ⟨gs2, eg, lgs, rg⟩ := dt_list D2.dg
  rw [D2.hg] at eg
  injection eg with eg
  injection eg with eg
  subst eg
  exact ⟨dx, l1, l2, l3, e0, D2.sg, D2.k5, e1, D2.l6, D2.hcs, D2.ncs, e2, .lst e2 lgs rg, D2.lok, D2.lg6, D2.nam, e3, D2.lw, D2.ja, D2.gj, D2.srt, D2.srt2⟩
def names8 : List Str := ["a", "ab", "b", "zzzzzzzz", "m", "y", "leg", "k"]
def freeS (used : List Str) (xs : List Str) : List Str := xs.filter fun x => decide (x ∉ used)
theorem names8_ok : ∀ x ∈ names8, nameS x = true := by decide +kernel
theorem freeS_snoc (used xs : List Str) (x : Str) : freeS used (xs ++ [x]) = if x ∉ used then freeS used xs ++ [x] else freeS used xs := by
  unfold freeS
  rw [List.filter_append]
  by_cases c : x ∉ used
  · rw [if_pos c, List.filter_cons_of_pos (by simpa using c)]
    rfl
  · rw [if_neg c, List.filter_cons_of_neg (by simpa using c), List.filter_nil, List.append_nil]
theorem any_strs (x : Str) (ns : List Str) : ((ns.map PyData.str).any fun z => PyData.eqv z (.str x)) = decide (x ∈ ns) := by
  induction ns with
  | nil => rfl
  | cons n ns ih =>
    rw [List.map_cons, List.any_cons, ih, eqvS, ← Bool.decide_or]
    exact decide_eq_decide.mpr ⟨fun h => h.elim (fun e => by rw [e]; exact List.mem_cons_self) (List.mem_cons_of_mem _), fun h => (List.mem_cons.mp h).elim (fun e => .inl e.symm) .inr⟩
theorem nodup_le : ∀ {xs used : List Str}, xs.Nodup → (∀ x ∈ xs, x ∈ used) → xs.length ≤ used.length
  | [], _, _, _ => Nat.zero_le _
  | x :: xs, used, nd, h => by
    obtain ⟨n1, n2⟩ := List.nodup_cons.mp nd
    have hx := h x List.mem_cons_self
    have ih := nodup_le (used := used.erase x) n2 fun y hy => (List.mem_erase_of_ne (fun e : y = x => n1 (by rw [← e]; exact hy))).mpr (h y (List.mem_cons_of_mem _ hy))
    have l := List.length_erase_of_mem hx
    have := List.length_pos_of_mem hx
    rw [List.length_cons]
    omega
theorem freeS_two {used : List Str} (l : used.length ≤ 6) : 2 ≤ (freeS used names8).length := by
  have e := List.length_eq_countP_add_countP (fun x => decide (x ∉ used)) (l := names8)
  rw [List.countP_eq_length_filter, List.countP_eq_length_filter] at e
  have nd8 : names8.Nodup := by decide +kernel
  have sub := nodup_le (xs := names8.filter fun a => decide ¬(decide (a ∉ used) = true)) (used := used) (List.Pairwise.filter _ nd8) fun x hx => by
    have := (List.mem_filter.mp hx).2
    simpa using this
  have e8 : names8.length = 8 := rfl
  unfold freeS
  omega
theorem strs_perm {ys : List V} {ns : List Str} (h : ys.Perm (ns.map V.str)) : ∃ ms : List Str, ys = ms.map V.str ∧ ms.Perm ns := by
  refine ⟨ys.map fun v => match v with | .str x => x | _ => "", ?_, ?_⟩
  · rw [List.map_map]
    refine ((List.map_congr_left (g := id) fun v hv => ?_).trans (List.map_id _)).symm
    have q := h.mem_iff.mp hv
    obtain ⟨n, _, rfl⟩ := List.mem_map.mp q
    rfl
  · have := h.map fun v => match v with | .str x => x | _ => ""
    rw [List.map_map] at this
    have e : (List.map ((fun v => match v with | V.str x => x | _ => "") ∘ V.str) ns) = ns := (List.map_congr_left (g := id) fun x _ => rfl).trans (List.map_id _)
    rw [e] at this
    exact this
theorem TupAt.off_ {p t : Addr} {n : Nat} {H H' : Hp} {xs : List V} (h : TupAt H t xs) (hp : SrcAt H p n) (o : Off p H H') : TupAt H' t xs := ((TupAt.del hp h).same (off_same o)).same del_sub
section
variable {P : Program} {w : World} {K : PySem.W.Frag} {mg : Str → Option Value} {base : Heap}
abbrev lawN : List Str := ["_law_script", "_law_cell", "_law_source", "_law_sorts", "_law_kinds", "_law_drawn", "_law_drawing_here", "_law_used", "_law_name", "_law_sort", "_law_free", "_law_names_here", "_law_inner_here", "_law_join"]
theorem scLaw : FnScope lawN ["_law_script"] (defScope sLaw) := ⟨rfl, rfl, rfl, by decide +kernel, rfl, by decide +kernel, by decide +kernel⟩
theorem ok_law {f fI fS fR fD fX fI2 fM fRI fY C D CS : Addr} {fd fdI fdS fdR fdD fdX fdI2 fdM fdRI : FuncData} (F : Fun K "law" "law" sLaw f fd) (M : Mods mg) (T : StkC K mg C CS fY) (TD : DrC K mg D) (mak : Mk K C fI) (mInt : mg "int" = none)
    (GI : FnOk P w K mg base (L2.CX P w) 5 fI fdI ["self", "sorts", "kinds"] (spInit C CS)) (bI : Binds K fdI ["self", "sorts", "kinds"] [])
    (GS : FnOk P w K mg base CX0 1 fS fdS ["_law_cell"] spSrc) (kS : PySem.W.keepIn K (.ref fS) = true) (bS : Binds K fdS ["_law_cell"] []) (gS : mg "_law_source_of" = some (.ref fS))
    (GR : FnOk P w K mg base CX0 4 fR fdR ["_law_source", "_law_most"] spStock) (kR : PySem.W.keepIn K (.ref fR) = true) (bR : Binds K fdR ["_law_source", "_law_most"] []) (gR : mg "_law_stock" = some (.ref fR))
    (GD : FnOk P w K mg base CX0 4 fD fdD ["_law_source", "_law_sorts", "_law_kinds", "_law_most"] spDrawing) (kD : PySem.W.keepIn K (.ref fD) = true) (bD : Binds K fdD ["_law_source", "_law_sorts", "_law_kinds", "_law_most"] []) (gD : mg "_law_drawing" = some (.ref fD))
    (GX : FnOk P w K mg base CX0 2 fX fdX ["_law_source", "_law_some"] spMixed) (kX : PySem.W.keepIn K (.ref fX) = true) (bX : Binds K fdX ["_law_source", "_law_some"] []) (gX : mg "_law_mixed" = some (.ref fX))
    (GI2 : FnOk P w K mg base CX0 1 fI2 fdI2 ["_law_drawn"] spLInner) (kI2 : PySem.W.keepIn K (.ref fI2) = true) (bI2 : Binds K fdI2 ["_law_drawn"] []) (gI2 : mg "_law_inner" = some (.ref fI2))
    (GM : FnOk P w K mg base (L2.CX P w) 7 fM fdM ["_law_stock_here", "_law_drawn"] (spMade C D)) (kM : PySem.W.keepIn K (.ref fM) = true) (bM : Binds K fdM ["_law_stock_here", "_law_drawn"] []) (gM : mg "_law_made" = some (.ref fM))
    (GRI : FnOk P w K mg base CX0 9 fRI fdRI ["_law_drawing_here", "_law_join", "_law_names_here"] (spRight48 C D)) (kRI : PySem.W.keepIn K (.ref fRI) = true) (bRI : Binds K fdRI ["_law_drawing_here", "_law_join", "_law_names_here"] []) (gRI : mg "_law_right" = some (.ref fRI)) :
    FnOk P w K mg base CX0 10 f fd ["_law_script"] (spLaw K) := by
  refine F.ok scLaw (fun vs H Q E h => ?_) (fun cdv A outer s H vs Q E hr h => ?_)
  · obtain ⟨a, ns, rfl, _⟩ := h
    rfl
  · obtain ⟨a, ns, rfl, hS, hlen, k⟩ := h
    have hr1 : Room 1 (A.deeper (envOfC "law" (defScope sLaw) s.heap.objs.size f cdv)) := hr.mono (by decide)
    have hr2 : Room 2 (A.deeper (envOfC "law" (defScope sLaw) s.heap.objs.size f cdv)) := hr.mono (by decide)
    have hr3 : Room 3 (A.deeper (envOfC "law" (defScope sLaw) s.heap.objs.size f cdv)) := hr.mono (by decide)
    have hr4 : Room 4 (A.deeper (envOfC "law" (defScope sLaw) s.heap.objs.size f cdv)) := hr.mono (by decide)
    have hr6 : Room 6 (A.deeper (envOfC "law" (defScope sLaw) s.heap.objs.size f cdv)) := hr.mono (by decide)
    have hr9 : Room 9 (A.deeper (envOfC "law" (defScope sLaw) s.heap.objs.size f cdv)) := hr.mono (by decide)
    have hr7 : Room 7 (A.deeper (envOfC "law" (defScope sLaw) s.heap.objs.size f cdv)) := hr.mono (by decide)
    have hu65 : (A.deeper (envOfC "law" (defScope sLaw) s.heap.objs.size f cdv)).units + 65 < cLine := by
      have := hr.un
      omega
    refine ⟨_, (pss_cons (ps_for PassesOwn.never rfl (pi_list (pe_op op_cat (pe_slice sl_list (pv 0) po_none (po_some pe_int)) (pe_lst (pa_cons pe_int (pa_cons pe_int pa_nil))))) (pg_name (i := 1) scLaw.nd rfl (Or.inl rfl)) (pss_cons (ps_set (i := 2) scLaw.nd rfl (Or.inl rfl) (pe_call GS hr1 (by rfl) gS kS bS .nil pass0 (pa_cons (pv 1) pa_nil)))
      (pss_cons (ps_asg (pe_call GR hr4 (by rfl) gR kR bR .nil pass0 (pa_cons (pv 2) (pa_cons pe_int pa_nil))) (pg_tup rfl (pgs_cons (pg_name (i := 3) scLaw.nd rfl (Or.inl rfl)) (pgs_cons (pg_name (i := 4) scLaw.nd rfl (Or.inl rfl)) pgs_nil))))
      (pss_cons (ps_set (i := 5) scLaw.nd rfl (Or.inl rfl) (pe_call GD hr4 (by rfl) gD kD bD .nil pass0 (pa_cons (pv 2) (pa_cons (pv 3) (pa_cons (pv 4) (pa_cons pe_int pa_nil))))))
      (pss_cons (ps_set (i := 6) scLaw.nd rfl (Or.inr rfl) (pe_callS (E := noE) GM hr7 (by rfl) gM kM bM (fun σ => passN σ) (pa_cons (pe_makeS (E := noE) mak GI hr6 (by rfl) T.mgC bI (fun σ => passN σ) (pa_cons (pv 3) (pa_cons (pv 4) pa_nil))) (pa_cons (pv 5) pa_nil))))
      (pss_cons (ps_set (i := 7) scLaw.nd rfl (Or.inr rfl) (pe_lc (own := [("_law_name", 8), ("_law_sort", 9)]) (g := gTup K 2 (gCons (gName 8) (gCons (gName 9) gNil)))  (tt := tYes) (te := (tVar 8)) rfl scLaw.nd (pi_list (pe_ix ix_tup (pv 5) pe_int (fun _ _ => rfl))) (blkOk_by (N := lawN) (sc := defScope sLaw) (by decide +kernel)) (fun _ _ _ _ _ => (pg_tup rfl (pgs_cons (pg_name (i := 8) scLaw.nd rfl (Or.inl rfl)) (pgs_cons (pg_name (i := 9) scLaw.nd rfl (Or.inl rfl)) pgs_nil)))) (fun _ _ _ _ _ => pts_nil) (fun _ _ _ _ _ => (by exact (pv 8)))))
      (pss_cons (ps_setLc (i := 10) (own := [("_law_name", 8)]) (g := gName 8) (tt := tTest (tOp (rNotInD K) (tVar 8) (tVar 7))) (te := (tVar 8)) rfl scLaw.nd rfl rfl (sw_true rfl rfl rfl (by decide +kernel)) (pi_list (pe_lst (pa_cons pe_str (pa_cons pe_str (pa_cons pe_str (pa_cons pe_str (pa_cons pe_str (pa_cons pe_str (pa_cons pe_str (pa_cons pe_str pa_nil)))))))))) (blkOk_by (N := lawN) (sc := defScope sLaw) (by decide +kernel)) (fun _ _ _ _ _ => pg_name (i := 8) scLaw.nd rfl (Or.inl rfl)) (fun _ _ _ _ _ => pts_one (pt_cmpR (op_notInD hu65) (pv 8) (pv 7) (by rfl))) (fun _ _ _ _ _ => (by exact (pv 8))))
      (pss_cons (ps_set (i := 11) scLaw.nd rfl (Or.inr rfl) (pe_callTy call_tuple_ofP (by rfl) M.tup_ (by decide +kernel) (pa_cons (pe_slice sl_list (pe_call GX hr2 (by rfl) gX kX bX .nil pass0 (pa_cons (pv 2) (pa_cons (pv 10) pa_nil))) po_none (po_some pe_int)) pa_nil)))
      (pss_cons (ps_set (i := 12) scLaw.nd rfl (Or.inl rfl) (pe_op op_rep (pe_call GI2 hr1 (by rfl) gI2 kI2 bI2 .nil pass0 (pa_cons (pv 5) pa_nil)) (pe_callTy call_int1 (by rfl) mInt (by decide +kernel) (pa_cons (pe_cmpR op_lt (pe_callB call_len_seq (by rfl) M.len PySem.boot_len (pa_cons (pv 7) pa_nil)) pe_int (nomark _)) pa_nil))))
      (pss_one (ps_if (pt_not (pt_val (pe_callB (cr_all rfl) (by rfl) M.all_ (by decide +kernel) (pa_cons (pe_lc (own := [("_law_join", 13)]) (g := gName 13) (tt := tYes) (te := (tCall (spRight48 C D) [] E0 (tCons (tVar 6) (tCons (tVar 13) (tCons (tVar 11) tNil))))) rfl scLaw.nd (pi_list (pv 12)) (blkOk_by (N := lawN) (sc := defScope sLaw) (by decide +kernel)) (fun _ _ _ _ _ => pg_name (i := 13) scLaw.nd rfl (Or.inl rfl)) (fun _ _ _ _ _ => pts_nil) (fun _ _ _ _ _ => (by exact (pe_call GRI hr9 (by rfl) gRI kRI bRI .nil pass0 (pa_cons (pv 6) (pa_cons (pv 13) (pa_cons (pv 11) pa_nil))))))) pa_nil)))) (pss_one (ps_ret pe_bl)) pss_nil)))))))))))
      (pss_one (ps_ret pe_bl))), ?_⟩
    have hcut : (cutV (ns.map V.int) none (some 6)).length ≤ 63 := Nat.le_trans (cutV_length _ _ _) (by rw [List.length_map]; exact hlen)
    have hints : ∀ z ∈ cutV (ns.map V.int) none (some 6) ++ [V.int 0, V.int 1], ∃ n : Int, z = .int n := fun z hz => by
      rcases List.mem_append.mp hz with q | q
      · exact cut_ints ns 6 z q
      · have q2 : z = .int 0 ∨ z = .int 1 := by simpa using q
        rcases q2 with rfl | rfl
        · exact ⟨0, rfl⟩
        · exact ⟨1, rfl⟩
    refine ⟨_, rfl, 6, rfl, a, ns.map V.int, rfl, hS, fun p0 n0 => ?_⟩
    refine ⟨by show 2 ≤ sizeLine; decide, fun p1 n1 => ?_⟩
    refine ⟨p0, p1, _, _, rfl, rfl, (same_new n1) _ _ upd_same, upd_same, ?_, fun L nL => ?_⟩
    · rw [sizeLine_eq]
      show (cutV (ns.map V.int) none (some 6)).length + 2 ≤ 16777216
      omega
    generalize cutV (ns.map V.int) none (some 6) ++ [V.int 0, V.int 1] = XS at hints ⊢
    refine ⟨L, rfl, ⟨_, SqL.of upd_same⟩, for_list (K := K) (a := L) (xs := XS) (fun i σ H' => (∃ y1 y2 y3 y4 y5 y6 y7 y8 y9 y10 y11 y12 y13, σ = [some (V.ref a), y1, y2, y3, y4, y5, y6, y7, y8, y9, y10, y11, y12, y13]) ∧ H' L = some (.lst XS))
      ⟨⟨_, _, _, _, _, _, _, _, _, _, _, _, _, rfl⟩, upd_same⟩ (fun i σ H' _ h => SqL.of h.2) ?_ ?_⟩
    · rintro i0 y σ H1 hy ⟨⟨y1, y2, y3, y4, y5, y6, y7, y8, y9, y10, y11, y12, y13, rfl⟩, hL⟩
      obtain ⟨z, rfl⟩ := hints y (List.mem_of_getElem? hy)
      refine ⟨_, rfl, z, rfl, fun p H2 np hp s2 => ?_⟩
      have nLp : L ≠ p := ne_of_none hL np
      refine ⟨_, rfl, p, 0, 5, rfl, hp, by decide, by decide, by decide, fun t ls lk rows ks HS gd gk l1k l4k okk hkn et ds dk hpS oS => ?_⟩
      have hLS : HS L = some (.lst XS) := oS _ _ (s2 _ _ hL) nLp
      refine ⟨t, _, rfl, SqT.of (del_sub _ _ et), rfl, _, _, rfl, _, _, rfl, rfl, ?_⟩
      obtain ⟨ws, hw, kn⟩ := hkn
      have hw := del_sub _ _ hw
      have kn := knds_same del_sub kn
      have ds := ds.same (del_sub (p := p) (H := HS))
      have dk := dk.same (del_sub (p := p) (H := HS))
      clear hL hp s2 et oS
      have mu := mut_of gd
      obtain ⟨g1, g3, gnm, gnd, gmu⟩ := good_rows gd
      have k5 : ∀ kr ∈ ks, kr.2.length ≤ 5 := fun kr hk => (gk.en kr hk).2.1
      have nlk := knds_src hpS hw kn
      -- what is drawn
      refine ⟨_, rfl, _, rfl, _, rfl, p, ls, lk, _, 5, rows, ks, ws, rfl, hpS, by decide, by decide, ds, gd, mu, hw, kn, gk, l1k, l4k, fun t2 c g u cs lg wj js HD lc dw tt hpD oD => ?_⟩
      have nls := rows_src hpS ds
      have ds := ds.off hpS (noInt_rows rows) oD
      have dk := dk.off hpS (noInt_kinds ks) oD
      have kn := knds_off hpS kn oD
      have hw := oD _ _ hw nlk
      have hLD := oD _ _ hLS nLp
      clear hLS hpS oD
      have c6 : cs.length ≤ 6 := by omega
      obtain ⟨gs, eg, lgs, rg⟩ := dt_list dw.dg
      -- the stock and the drawing
      refine ⟨_, rfl, _, rfl, fun x dx nx ndx ne => make_stk nx ndx ne ds dk hw kn gd gk l1k (by omega) fun HT sg sT => ⟨rfl, ?_⟩⟩
      have dw := dw.same sT
      have tt := tt.same sT
      have ds := ds.same sT
      have dk := dk.same sT
      have kn := knds_same sT kn
      have hw := sT _ _ hw
      have hLD := sT _ _ hLD
      have hpD := hpD.same sT
      have eg := sT _ _ eg
      have rg := rg.same sT
      have DI := dw.din gd gk sg c6 eg
      have gj := DI.gj
      have lw40 := DI.lw
      have lj40 := DI.ja.len
      have plc := DI.places
      refine ⟨_, rfl, x, t2, c, g, u, rows, ks, cs, lg, gs, wj, sortJ js, rfl, DI, tt, fun y H0 HF ny dn sF => ?_⟩
      have B : Bun C D H0 HF L XS x ls lk y c g u rows ks ws cs lg gs wj js := ⟨sg.same sF, ds.same sF, dk.same sF, sF _ _ hw, knds_same sF kn, sF _ _ hLD, dw.same sF, dn, sF _ _ eg, rg.same sF⟩
      have hpF := (hpD.same sF).mono (m := 2000) (by decide)
      have tt := tt.same sF
      have g6 : gs.length = lg.length := by rw [rg.len, List.length_map]
      clear sg ds dk hw kn hLD dw dn eg rg DI sF hpD
      have lg6 := B.dw.LG.l6
      -- the names in use
      refine ⟨_, rfl, t2, _, 1, _, rfl, rfl, tt.sq, ix1, g, rfl, ⟨_, SqL.of B.eg⟩, fun q1 nq1 => ?_⟩
      have nq1p := hpF.ne nq1
      refine lc_mapW (walk_list (K := K) (a := g) (xs := gs)) ((lg.map (·.1)).map V.str) (by rw [List.length_map, List.length_map, g6]) (by omega) nq1 (fun H2 s2 => SqL.of (s2 _ _ B.eg)) (fun i H x H' h => by rw [h.1]; exact Same.refl _) (fun i yv H2 H3 R hi s2 hyv hR => ?_) (fun G1 s1 hq1 => ?_)
      · obtain ⟨rfl, hyv⟩ := hyv
        obtain ⟨zz, hz, hzd⟩ := dtrowG_at B.rg hyv
        have hz' : lg[i]? = some zz := hz
        obtain ⟨q, rfl, tq⟩ := row_at B.rg hyv hz'
        refine ⟨q, _, rfl, (tq.same s2).sq, rfl, _, _, rfl, _, _, rfl, rfl, rfl, _, rfl, hR _ _ ?_ (Same.refl _)⟩
        rw [List.getElem?_map, List.getElem?_map, hz']
        rfl
      have B := B.same s1
      have tt := tt.same s1
      have hpF := hpF.same s1
      clear s1
      -- those that are free
      refine ⟨by show 8 ≤ sizeLine; decide, fun q2 nq2 => ⟨q2, rfl, ⟨_, SqL.of upd_same⟩, fun q3 nq3 => ?_⟩⟩
      rw [show ([V.str "a", V.str "ab", V.str "b", V.str "zzzzzzzz", V.str "m", V.str "y", V.str "leg", V.str "k"] : List V) = names8.map V.str from rfl]
      have x2 := same_new (o := .lst (names8.map V.str)) nq2
      have hq2 : upd G1 q2 (.lst (names8.map V.str)) q2 = some (.lst (names8.map V.str)) := upd_same
      change upd G1 q2 (.lst (names8.map V.str)) q3 = none at nq3
      have lu : (lg.map (·.1)).length ≤ 6 := by rw [List.length_map]; exact lg6
      have nmu : ∀ x ∈ lg.map (·.1), nameS x = true := fun x hx => by
        obtain ⟨r, hr', e⟩ := List.mem_map.mp hx
        rw [← e]
        exact B.dw.LG.nm r hr'
      have du : Dt G1 (.ref q1) (.list ((lg.map (·.1)).map .str)) := dt_lstrs hq1 (by omega) nmu
      have B := B.same x2
      have tt := tt.same x2
      have hpF := hpF.same x2
      have hq1 := x2 _ _ hq1
      have du := du.same x2
      generalize upd G1 q2 (.lst (names8.map V.str)) = G2 at x2 hq2 nq3 B tt hpF hq1 du ⊢
      refine lc_it (walk_list (K := K) (a := q2) (xs := names8.map V.str)) (fun i H' => Same G2 (del H' q3) ∧ H' q3 = some (.lst ((freeS (lg.map (·.1)) (names8.take i)).map V.str))) ⟨same_del' nq3, upd_same⟩ (fun i H' _ h => SqL.of (del_sub _ _ (h.1 _ _ hq2))) ?_ ?_
      · rintro i xv H3 H4 hi ⟨s3, hD3⟩ ⟨rfl, hx⟩
        rw [List.getElem?_map] at hx
        obtain ⟨nm, hn, rfl⟩ := Option.map_eq_some_iff.mp hx
        have z3 := s3.trans (del_sub (H := H4) (p := q3))
        have du3 := du.same z3
        have okn : okS nm := okS_name (names8_ok nm (List.mem_of_getElem? hn))
        refine ⟨rfl, ?_⟩
        refine ⟨_, rfl, _, rfl, .str nm, (lg.map (·.1)).map .str, (Dt.str (H := H4) nm okn).dp rfl, du3.dp (low_strs _).nd, shape_of (Dt.str (H := H4) nm okn) ⟨rfl, Nat.zero_le _⟩, shape_of du3 (low_strs _), _, rfl, ?_⟩
        have ea : (((lg.map (·.1)).map PyData.str).any fun z => PyData.eqv z (.str nm)) = decide (nm ∈ lg.map (·.1)) := any_strs _ _
        rw [ea]
        have e0 := freeS_snoc (lg.map (·.1)) (names8.take i) nm
        rw [← take_snoc hn] at e0
        have lo : (freeS (lg.map (·.1)) (names8.take i)).length ≤ 8 := by
          refine Nat.le_trans (List.length_filter_le _ _) ?_
          rw [List.length_take]
          exact Nat.min_le_right _ _
        refine ite2 (fun c => ?_) (fun c => ?_)
        · have cn : nm ∉ lg.map (·.1) := fun h => by
            rw [decide_eq_true h] at c
            cases c
          refine ⟨_, rfl, _, hD3, small1000 (by rw [List.length_map]; omega), s3.trans del_upd_same, ?_⟩
          rw [upd_same, e0, if_pos cn, List.map_append]
          rfl
        · have cn : ¬ nm ∉ lg.map (·.1) := fun h => c (by rw [decide_eq_false h]; rfl)
          refine ⟨s3, ?_⟩
          rw [e0, if_neg cn]
          exact hD3
      rintro G3 ⟨s3, hq3⟩
      rw [show (names8.map V.str).length = names8.length from List.length_map _, List.take_of_length_le (Nat.le_refl _)] at hq3
      have nq3p := hpF.ne nq3
      have z3 := s3.trans (del_sub (H := G3) (p := q3))
      have B := B.same z3
      have tt := tt.same z3
      have hpF := hpF.same z3
      have du := du.same z3
      have hq1 := z3 _ _ hq1
      clear s3 x2 hq2 z3 nq1 nq2
      have two := freeS_two lu
      have fsub : ∀ x ∈ freeS (lg.map (·.1)) names8, x ∈ names8 ∧ x ∉ lg.map (·.1) := fun x hx => by
        unfold freeS at hx
        have := List.mem_filter.mp hx
        exact ⟨this.1, by simpa using this.2⟩
      have fnd : (freeS (lg.map (·.1)) names8).Nodup := List.Pairwise.filter _ (by decide +kernel : names8.Nodup)
      have flen : (freeS (lg.map (·.1)) names8).length ≤ 8 := List.length_filter_le _ _
      generalize freeS (lg.map (·.1)) names8 = FS at hq3 two fsub fnd flen
      -- two of them
      refine ⟨_, rfl, _, rfl, p, q3, 2000, FS.map V.str, FS.map .str, rfl, hpF, by decide, hq3, nq3p, DtAll.strs FS fun x hx => okS_name (names8_ok x (fsub x hx).1), fun d hd => by obtain ⟨x, _, rfl⟩ := List.mem_map.mp hd; exact ⟨rfl, Nat.zero_le _⟩, by rw [List.length_map]; omega, fun u1 ys G4 nu1 pm hu1 hpG oG => ?_⟩
      obtain ⟨MS, rfl, pms⟩ := strs_perm pm
      have B := B.off hpF nLp oG
      have tt := tt.off_ hpF oG
      have hq1 := oG _ _ hq1 nq1p
      obtain ⟨n1, n2, rest, rfl⟩ : ∃ n1 n2 rest, MS = n1 :: n2 :: rest := by
        match MS, pms.length_eq with
        | [], e => exact absurd two (by have e : 0 = FS.length := e; omega)
        | [_], e => exact absurd two (by have e : 1 = FS.length := e; omega)
        | a :: b :: r, _ => exact ⟨a, b, r, rfl⟩
      have f1 := fsub n1 (pms.mem_iff.mp List.mem_cons_self)
      have f2 := fsub n2 (pms.mem_iff.mp (List.mem_cons_of_mem _ List.mem_cons_self))
      have nn : n1 ≠ n2 := fun e => by
        have z := pms.nodup_iff.mpr fnd
        rw [List.nodup_cons] at z
        exact z.1 (by rw [e]; exact List.mem_cons_self)
      have m1 := names8_ok n1 f1.1
      have m2 := names8_ok n2 f2.1
      refine ⟨2, rfl, u1, _, rfl, SqL.of hu1, fun q4 nq4 => ?_⟩
      have ec : cutV ((n1 :: n2 :: rest).map V.str) none (some 2) = [V.str n1, V.str n2] := cut_to _ 2
      rw [ec]
      have x5 := same_new (o := .lst [.str n1, .str n2]) nq4
      have hq4 : upd G4 q4 (.lst [.str n1, .str n2]) q4 = some (.lst [.str n1, .str n2]) := upd_same
      have B := B.same x5
      have tt := tt.same x5
      have hq1 := x5 _ _ hq1
      generalize upd G4 q4 (.lst [.str n1, .str n2]) = G5 at x5 hq4 B tt hq1 ⊢
      refine ⟨q4, _, rfl, .inl ⟨SqL.of hq4, fun t3 G6 nt3 x6 pl _ => ?_⟩⟩
      have B := B.same x6
      have tt := tt.same x6
      have hq1 := x6 _ _ hq1
      have tn : TupAt G6 t3 [.str n1, .str n2] := ⟨pl.rd⟩
      clear x5 hq4 x6 pl hu1 nu1 pm hpF hpG oG hq3 nq3p nq3 du pms two fnd flen fsub
      refine gn_go ?_
      dsimp only
      -- the inner joins
      have Tr : Tri G6 t2 c g u cs lg gs wj (sortJ js) := ⟨tt, B.dw.hc, B.eg, B.dw.dg, B.dw.hu, B.dw.jv⟩
      have lsj : (sortJ js).length ≤ 40 := by omega
      refine ⟨_, rfl, t2, c, g, u, cs, lg, gs, wj, sortJ js, rfl, Tr, by omega, fun r wf G7 nr s7 hr7 jf => ?_⟩
      have z7 := s7.trans (del_sub (H := G7) (p := r))
      have jf7 := jf.same (del_sub (H := G7) (p := r))
      have B := B.same z7
      have tt := tt.same z7
      have tn := tn.same z7
      have Tr := Tr.same z7
      have hq1 := z7 _ _ hq1
      have lwf : wf.length ≤ 40 := by
        rw [jf.len]
        exact Nat.le_trans (List.length_filter_le _ _) lsj
      refine ⟨_, rfl, q1, _, rfl, .inl (SqL.of hq1), _, _, rfl, rfl, .inr ⟨_, rfl, ?_⟩⟩
      have hYS : ∀ (b : Bool), ∀ v ∈ (List.replicate ((if b = true then (1:Int) else 0).toNat) wf).flatten, v ∈ wf ∧ b = true := by
        intro b v hv
        cases b
        · exact absurd hv (by simp)
        · exact ⟨by simpa using hv, rfl⟩
      have lYS : ∀ b : Bool, (List.replicate ((if b = true then (1:Int) else 0).toNat) wf).flatten.length ≤ 40 := by
        intro b
        cases b
        · exact Nat.zero_le _
        · have e : (List.replicate ((if true = true then (1:Int) else 0).toNat) wf).flatten = wf := by simp
          rw [e]
          exact lwf
      have kYS : ∀ b : Bool, wf.length * (if b = true then (1:Int) else 0).toNat ≤ 40 := by
        intro b
        cases b
        · exact Nat.zero_le _
        · show wf.length * 1 ≤ 40
          omega
      try dsimp only
      rw [show (((lg.map (·.1)).map V.str).length) = lg.length by rw [List.length_map, List.length_map]]
      generalize hb : decide (((lg.length : Nat) : Int) < 5) = b
      refine ⟨r, _, wf, rfl, rfl, hr7, by cases b <;> decide, by cases b <;> decide, Nat.le_trans (kYS b) (by rw [sizeLine_eq]; decide), fun p2 np2 => ?_⟩
      have hYS := hYS b
      have lYS := lYS b
      have x8 := same_new (o := .lst (List.replicate ((if b = true then (1:Int) else 0).toNat) wf).flatten) np2
      have hp2 : upd G7 p2 (.lst (List.replicate ((if b = true then (1:Int) else 0).toNat) wf).flatten) p2 = some (.lst (List.replicate ((if b = true then (1:Int) else 0).toNat) wf).flatten) := upd_same
      generalize (List.replicate ((if b = true then (1:Int) else 0).toNat) wf).flatten = YS at hYS lYS x8 hp2 ⊢
      have B := B.same x8
      have tt := tt.same x8
      have tn := tn.same x8
      have jf8 := jf7.same x8
      generalize upd G7 p2 (.lst YS) = G8 at x8 hp2 B tt tn jf8 ⊢
      have all : ∀ v ∈ YS, ∃ (j : JRow) (tj : Addr), v = .ref tj ∧ TupAt G8 tj (joinV j) ∧ j ∈ sortJ js ∧ j.2.1 < cs.length ∧ lg.length < 5 := fun v hv => by
        obtain ⟨hv1, rfl⟩ := hYS v hv
        obtain ⟨i, hi⟩ := List.getElem?_of_mem hv1
        obtain ⟨j, tj, hj, rfl, tq⟩ := joins_at jf8 hi
        have := List.mem_filter.mp (show j ∈ (sortJ js).filter _ from List.mem_of_getElem? hj)
        have b5 := of_decide_eq_true hb
        exact ⟨j, tj, rfl, tq, this.1, of_decide_eq_true this.2, by omega⟩
      refine gn_go ?_
      refine ⟨_, rfl, p2, rfl, ⟨_, SqL.of hp2⟩, fun D2 nD2 => ?_⟩
      refine lc_mapW (walk_list (K := K) (a := p2) (xs := YS)) (YS.map fun _ => V.bl true) (by rw [List.length_map]) (by omega) nD2 (fun H5 s5 => SqL.of (s5 _ _ hp2)) (fun i H x H' h => by rw [h.1]; exact Same.refl _) (fun i yv H5 H6 R hi s5 hyv hR => ?_) (fun H5 s5 hD2 => ?_)
      · obtain ⟨rfl, hyv⟩ := hyv
        obtain ⟨j, tj, rfl, tq, jmem, jin, lg5⟩ := all yv (List.mem_of_getElem? hyv)
        have B := B.same s5
        have DG := B.dn.drg2 (B.din gd gk c6)
        refine ⟨rfl, ?_⟩
        refine ⟨_, rfl, _, rfl, _, rfl, y, x, tj, t3, rows, ks, cs, lg, gs, wj, sortJ js, j, n1, n2, rfl, DG, gd, gk, mu, B.dw.LG, tq.same s5, jmem, jin, tn.same s5, m1, m2, nn, f1.2, f2.2, by omega, fun H7 s7 => hR _ _ ?_ s7⟩
        rw [List.getElem?_map, hyv]
        rfl
      refine ⟨D2, YS.map fun _ => true, rfl, ?_, _, rfl, ?_⟩
      · rw [List.map_map]
        exact SqL.of hD2
      rw [show (YS.map fun _ => true).all id = true by simp]
      try dsimp only
      rw [if_neg (by decide)]
      exact ⟨⟨_, _, _, _, _, _, _, _, _, _, _, _, _, rfl⟩, s5 _ _ B.hL⟩
    · rintro σ H2 ⟨⟨y1, y2, y3, y4, y5, y6, y7, y8, y9, y10, y11, y12, y13, rfl⟩, hL⟩
      exact k _
end
end Toy
set_option Elab.async false
set_option linter.all false
set_option maxRecDepth 100000
set_option maxHeartbeats 4000000
namespace Toy
open PySem PySem.Spec PyProof.Rows L2
/-! ### what the top has left -/
def stkB (K : PySem.W.Frag) (C fI : Addr) : Bool :=
  (PySem.W.plainGet K C Str.empty && PySem.W.hasDictIn K C && PySem.W.plainOver K C && (PySem.W.findIn K (.ref C) "__setattr__" == some (some (.builtin "object.__setattr__"))))
  && ((PySem.W.findIn K (.ref C) "sorts" == some none) && (PySem.W.findIn K (.ref C) "kinds" == some none))
  && ((PySem.W.findIn K (.ref C) "__class__" == some (some (.builtin "object.__class__"))) && (PySem.W.specialIn K (.builtin "object.__class__") "__get__" == some (some (.builtin "getset_descriptor.__get__"))) && (PySem.W.takesIn K (.builtin "object.__class__") == some true) && (PySem.W.mroIn K C (.type "object") == some true))
  && ((PySem.W.kitOne K (.ref C) (.ref C) == some true) && PySem.W.makesIn K C && (PySem.W.findIn K (.ref C) "__init__" == some (some (.ref fI))) && PySem.W.isFn K (.ref fI) && PySem.W.keepIn K (.ref C))
def nosB (K : PySem.W.Frag) (N fX : Addr) : Bool :=
  ((PySem.W.findIn K (.ref N) "__setattr__" == some (some (.builtin "object.__setattr__"))) && (PySem.W.subIn K (.ref N) (.type "BaseException") == some true) && (PySem.W.typeIn K (.ref N) == some (.type "type")) && PySem.W.keepIn K (.ref N))
  && ((PySem.W.findIn K (.ref N) "part" == some none) && (PySem.W.findIn K (.ref N) "__init__" == some (some (.ref fX))) && (PySem.W.typeIn K (.ref fX) == some (.type "function")))
theorem nos_of {K : PySem.W.Frag} {mg : Str → Option Value} {N fX : Addr} {nm qn : Str} {N0 : Addr} {bs bm sub : List Value} {sn : List Str} {ab : Bool} {col : Option Bool} {dd : Option Addr} {u v w x y : Option Value}
    (h2 : nosB K N fX = true) (xl : K.lookup N = some (excClassObj nm qn N N0 bs bm true sn sub ab col dd u v w x y "ValueError.__new__")) (rb : PySem.HandSPX.refsVE bm = true) :
    OexC K N ∧ PySem.W.findIn K (.ref N) "part" = some none ∧ PySem.W.findIn K (.ref N) "__init__" = some (some (.ref fX)) ∧ PySem.W.typeIn K (.ref fX) = some (.type "function") := by
  unfold nosB at h2
  simp only [Bool.and_eq_true, beq_iff_eq] at h2
  obtain ⟨⟨⟨⟨k1, i3⟩, k2⟩, k3⟩, ⟨⟨l1, l2⟩, l3⟩⟩ := h2
  exact ⟨⟨⟨_, _, _, _, _, _, _, _, _, _, _, _, _, _, _, xl, rb⟩, k1, i3, k2, k3⟩, l1, l2, l3⟩
theorem stk_of {K : PySem.W.Frag} {mg : Str → Option Value} {C N fI fX : Addr} (h1 : stkB K C fI = true) (hN : OexC K N ∧ PySem.W.findIn K (.ref N) "part" = some none ∧ PySem.W.findIn K (.ref N) "__init__" = some (some (.ref fX)) ∧ PySem.W.typeIn K (.ref fX) = some (.type "function"))
    (mC : mg "Stock" = some (.ref C)) (mN : mg "NoStock" = some (.ref N)) : StkC K mg C N fX ∧ Mk K C fI := by
  unfold stkB at h1
  simp only [Bool.and_eq_true, beq_iff_eq] at h1
  obtain ⟨⟨⟨⟨⟨⟨a1, a2⟩, a3⟩, a4⟩, ⟨b1, b2⟩⟩, ⟨⟨⟨c1, c2⟩, c3⟩, c4⟩⟩, ⟨⟨⟨⟨d1, d2⟩, d3⟩, d4⟩, d5⟩⟩ := h1
  obtain ⟨n1, n2, n3, n4⟩ := hN
  exact ⟨⟨⟨a1, a2, a3, a4⟩, b1, b2, mC, c1, c2, c3, c4, d1, n1, n2, n3, n4, mN⟩, ⟨d2, d3, d4, d5⟩⟩
theorem scNoSt : FnScope ["self", "part"] ["self", "part"] (defScope sNoSt) := ⟨rfl, rfl, rfl, by decide +kernel, rfl, by decide +kernel, by decide +kernel⟩
theorem scNoDr : FnScope ["self", "part"] ["self", "part"] (defScope sNoDr) := ⟨rfl, rfl, rfl, by decide +kernel, rfl, by decide +kernel, by decide +kernel⟩
def drB (K : PySem.W.Frag) (C fI fF : Addr) : Bool :=
  (PySem.W.plainGet K C Str.empty && PySem.W.hasDictIn K C && PySem.W.plainOver K C && (PySem.W.findIn K (.ref C) "__setattr__" == some (some (.builtin "object.__setattr__"))))
  && ((PySem.W.findIn K (.ref C) "stock" == some none) && (PySem.W.findIn K (.ref C) "corners" == some none) && (PySem.W.findIn K (.ref C) "legs" == some none) && (PySem.W.findIn K (.ref C) "joins" == some none))
  && ((PySem.W.findIn K (.ref C) "__class__" == some (some (.builtin "object.__class__"))) && (PySem.W.specialIn K (.builtin "object.__class__") "__get__" == some (some (.builtin "getset_descriptor.__get__"))) && (PySem.W.takesIn K (.builtin "object.__class__") == some true) && (PySem.W.mroIn K C (.type "object") == some true))
  && ((PySem.W.kitOne K (.ref C) (.ref C) == some true) && PySem.W.makesIn K C && (PySem.W.findIn K (.ref C) "__init__" == some (some (.ref fI))) && PySem.W.isFn K (.ref fI) && PySem.W.keepIn K (.ref C))
  && ((PySem.W.findIn K (.ref C) "__eq__" == some (some (.ref fF))) && PySem.W.isFn K (.ref fF) && (PySem.W.findIn K (.ref C) "__ne__" == some (some (.builtin "object.__ne__"))) && PySem.W.notFirst K C (.ref C))
def eqB (K : PySem.W.Frag) (C fF : Addr) : Bool :=
  (PySem.W.findIn K (.ref C) "__eq__" == some (some (.ref fF))) && PySem.W.isFn K (.ref fF) && (PySem.W.findIn K (.ref C) "__ne__" == some (some (.builtin "object.__ne__"))) && PySem.W.notFirst K C (.ref C) && (PySem.W.mroIn K C (.type "object") == some true)
abbrev veMro : List Value := [.type "ValueError", .type "Exception", .type "BaseException", .type "object"]
def paB (K : PySem.W.Frag) (C : Addr) : Bool := PySem.W.keepIn K (.ref C) && PySem.W.excIn K C veMro "ValueError.__new__" && (PySem.W.subIn K (.ref C) (.type "BaseException") == some true) && (PySem.W.typeIn K (.ref C) == some (.type "type"))
theorem dr_of {K : PySem.W.Frag} {mg : Str → Option Value} {C fI fF : Addr} (h1 : drB K C fI fF = true) (mC : mg "Drawing" = some (.ref C)) : DrC K mg C ∧ DrE K C ∧ Mk K C fI ∧ EqC K C fF ∧ PySem.W.notFirst K C (.ref C) = true := by
  unfold drB at h1
  simp only [Bool.and_eq_true, beq_iff_eq] at h1
  obtain ⟨⟨⟨⟨⟨⟨⟨a1, a2⟩, a3⟩, a4⟩, ⟨⟨⟨b1, b2⟩, b3⟩, b4⟩⟩, ⟨⟨⟨c1, c2⟩, c3⟩, c4⟩⟩, ⟨⟨⟨⟨d1, d2⟩, d3⟩, d4⟩, d5⟩⟩, ⟨⟨⟨e1, e2⟩, e3⟩, e4⟩⟩ := h1
  exact ⟨⟨⟨a1, a2, a3, a4⟩, b1, b2, b3, b4, mC⟩, ⟨c1, c2, c3, c4, d1⟩, ⟨d2, d3, d4, d5⟩, ⟨e1, e2, e3, c4⟩, e4⟩
theorem eq_of {K : PySem.W.Frag} {C fF : Addr} (h1 : eqB K C fF = true) : EqC K C fF ∧ PySem.W.notFirst K C (.ref C) = true := by
  unfold eqB at h1
  simp only [Bool.and_eq_true, beq_iff_eq] at h1
  obtain ⟨⟨⟨⟨e1, e2⟩, e3⟩, e4⟩, e5⟩ := h1
  exact ⟨⟨e1, e2, e3, e5⟩, e4⟩
theorem pa_of {K : PySem.W.Frag} {C : Addr} (h1 : paB K C = true) : NoPaC K C veMro "ValueError.__new__" := by
  unfold paB at h1
  simp only [Bool.and_eq_true, beq_iff_eq] at h1
  obtain ⟨⟨⟨e1, e2⟩, e3⟩, e4⟩ := h1
  exact ⟨e1, e2, e3, e4⟩
theorem all_mk {l : PySem.W.OpenLaw} {w : World} {K : PySem.W.Frag} {h : Heap} {mg : Str → Option Value}
    {fa C CN CD fn fp fl fu fe fk fK fs fI fX fV fP fc fg fi fa0 fa1 fa2 fa3 fa4 fa5 fE fa6 fa7 fa8 fa9 fb8 fb9 fj1 fj2 fh1 fh2 fh3 fh4 fh5 fh6 fS fN fO fW fR fT fm fB fA fD fb1 fb5 fb6 fL : Addr}
    {odn ann odp anp odl anl odu anu ode ane odk ank odK anK ods ans odI anI odX anX odV anV odP anP odc anc odg ang odi ani oda0 ana0 oda1 ana1 oda2 ana2 oda3 ana3 oda4 ana4 oda5 ana5 odE anE oda6 ana6 oda7 ana7 oda8 ana8 oda9 ana9 odb8 anb8 odb9 anb9 odj1 anj1 odj2 anj2 odh1 anh1 odh2 anh2 odh3 anh3 odh4 anh4 odh5 anh5 odh6 anh6 odS anS odN anN odO anO odW anW odR anR odT anT odm anm odB anB odA anA odD anD odb1 anb1 odb5 anb5 odb6 anb6 odL anL : Option Addr}
    {sln slp sll slu sle slk slK sls slI slX slV slP slc slg sli sla0 sla1 sla2 sla3 sla4 sla5 slE sla6 sla7 sla8 sla9 slb8 slb9 slj1 slj2 slh1 slh2 slh3 slh4 slh5 slh6 slS slN slO slW slR slT slm slB slA slD slb1 slb5 slb6 slL : Array (Option Value)}
    {ocn kVn dcn pmn cdn ctn ocp kVp dcp pmp cdp ctp ocl kVl dcl pml cdl ctl ocu kVu dcu pmu cdu ctu oce kVe dce pme cde cte ock kVk dck pmk cdk ctk ocK kVK dcK pmK cdK ctK ocs kVs dcs pms cds cts ocI kVI dcI pmI cdI ctI ocX kVX dcX pmX cdX ctX ocV kVV dcV pmV cdV ctV ocP kVP dcP pmP cdP ctP occ kVc dcc pmc cdc ctc ocg kVg dcg pmg cdg ctg oci kVi dci pmi cdi cti oca0 kVa0 dca0 pma0 cda0 cta0 oca1 kVa1 dca1 pma1 cda1 cta1 oca2 kVa2 dca2 pma2 cda2 cta2 oca3 kVa3 dca3 pma3 cda3 cta3 oca4 kVa4 dca4 pma4 cda4 cta4 oca5 kVa5 dca5 pma5 cda5 cta5 ocE kVE dcE pmE cdE ctE oca6 kVa6 dca6 pma6 cda6 cta6 oca7 kVa7 dca7 pma7 cda7 cta7 oca8 kVa8 dca8 pma8 cda8 cta8 oca9 kVa9 dca9 pma9 cda9 cta9 ocb8 kVb8 dcb8 pmb8 cdb8 ctb8 ocb9 kVb9 dcb9 pmb9 cdb9 ctb9 ocj1 kVj1 dcj1 pmj1 cdj1 ctj1 ocj2 kVj2 dcj2 pmj2 cdj2 ctj2 och1 kVh1 dch1 pmh1 cdh1 cth1 och2 kVh2 dch2 pmh2 cdh2 cth2 och3 kVh3 dch3 pmh3 cdh3 cth3 och4 kVh4 dch4 pmh4 cdh4 cth4 och5 kVh5 dch5 pmh5 cdh5 cth5 och6 kVh6 dch6 pmh6 cdh6 cth6 ocS kVS dcS pmS cdS ctS ocN kVN dcN pmN cdN ctN ocO kVO dcO pmO cdO ctO ocW kVW dcW pmW cdW ctW ocR kVR dcR pmR cdR ctR ocT kVT dcT pmT cdT ctT ocm kVm dcm pmm cdm ctm ocB kVB dcB pmB cdB ctB ocA kVA dcA pmA cdA ctA ocD kVD dcD pmD cdD ctD ocb1 kVb1 dcb1 pmb1 cdb1 ctb1 ocb5 kVb5 dcb5 pmb5 cdb5 ctb5 ocb6 kVb6 dcb6 pmb6 cdb6 ctb6 ocL kVL dcL pmL cdL ctL : Value}
    {nm1 qn1 : Str} {N01 : Addr} {bs1 bm1 sub1 : List Value} {sn1 : List Str} {ab1 : Bool} {col1 : Option Bool} {dd1 : Option Addr} {u_1 v_1 w_1 x_1 y_1 : Option Value}
    {nm2 qn2 : Str} {N02 : Addr} {bs2 bm2 sub2 : List Value} {sn2 : List Str} {ab2 : Bool} {col2 : Option Bool} {dd2 : Option Addr} {u_2 v_2 w_2 x_2 y_2 : Option Value}
    {t0 t1 t2 t3 t4 t5 t6 : Tok}
    {DD CJ CM CT CL : Addr}
    (X : K.In h) (G : h.Ns mainGlobals mg) (hfa : mg "law" = some (.ref fa))
    (aC : PySem.W.nsIn K mainGlobals "Stock" = some (some (.ref C)))
    (aCN : PySem.W.nsIn K mainGlobals "NoStock" = some (some (.ref CN)))
    (aCD : PySem.W.nsIn K mainGlobals "NoDrawing" = some (some (.ref CD)))
    (c0 : PySem.W.nsIn K mainGlobals "LETTERS" = some (some (.str LET t0)))
    (c1 : PySem.W.nsIn K mainGlobals "LONGEST_NAME" = some (some (.int 8 t1)))
    (c2 : PySem.W.nsIn K mainGlobals "MOST_SORTS" = some (some (.int 3 t2)))
    (c3 : PySem.W.nsIn K mainGlobals "MOST_KINDS" = some (some (.int 4 t3)))
    (c4 : PySem.W.nsIn K mainGlobals "MOST_ENDS" = some (some (.int 5 t4)))
    (c5 : PySem.W.nsIn K mainGlobals "MOST_CORNERS" = some (some (.int 6 t5)))
    (c6 : PySem.W.nsIn K mainGlobals "MOST_LEGS" = some (some (.int 6 t6)))
    (xl1 : K.lookup CN = some (excClassObj nm1 qn1 CN N01 bs1 bm1 true sn1 sub1 ab1 col1 dd1 u_1 v_1 w_1 x_1 y_1 "ValueError.__new__"))
    (rb1 : PySem.HandSPX.refsVE bm1 = true)
    (xl2 : K.lookup CD = some (excClassObj nm2 qn2 CD N02 bs2 bm2 true sn2 sub2 ab2 col2 dd2 u_2 v_2 w_2 x_2 y_2 "ValueError.__new__"))
    (rb2 : PySem.HandSPX.refsVE bm2 = true)
    (gn : PySem.W.nsIn K mainGlobals "is_name" = some (some (.ref fn)))
    (gp : PySem.W.nsIn K mainGlobals "is_pair" = some (some (.ref fp)))
    (gl : PySem.W.nsIn K mainGlobals "is_list" = some (some (.ref fl)))
    (gu : PySem.W.nsIn K mainGlobals "are_unlike" = some (some (.ref fu)))
    (ge : PySem.W.nsIn K mainGlobals "_are_ends" = some (some (.ref fe)))
    (gk : PySem.W.nsIn K mainGlobals "_is_kind" = some (some (.ref fk)))
    (gK : PySem.W.nsIn K mainGlobals "_are_kinds" = some (some (.ref fK)))
    (gs : PySem.W.nsIn K mainGlobals "_are_sorts" = some (some (.ref fs)))
    (gP : PySem.W.nsIn K mainGlobals "check_places" = some (some (.ref fP)))
    (gc : PySem.W.nsIn K mainGlobals "_are_corners" = some (some (.ref fc)))
    (gg : PySem.W.nsIn K mainGlobals "_are_legs" = some (some (.ref fg)))
    (gi : PySem.W.nsIn K mainGlobals "_is_leg" = some (some (.ref fi)))
    (ga0 : PySem.W.nsIn K mainGlobals "is_number" = some (some (.ref fa0)))
    (ga4 : PySem.W.nsIn K mainGlobals "_are_joins" = some (some (.ref fa4)))
    (ga5 : PySem.W.nsIn K mainGlobals "is_join" = some (some (.ref fa5)))
    (gE : PySem.W.nsIn K mainGlobals "all_ends" = some (some (.ref fE)))
    (ga6 : PySem.W.nsIn K mainGlobals "cut" = some (some (.ref fa6)))
    (ga7 : PySem.W.nsIn K mainGlobals "moved" = some (some (.ref fa7)))
    (ga8 : PySem.W.nsIn K mainGlobals "_is_inner" = some (some (.ref fa8)))
    (ga9 : PySem.W.nsIn K mainGlobals "_has_inner" = some (some (.ref fa9)))
    (gb8 : PySem.W.nsIn K mainGlobals "_are_new_names" = some (some (.ref fb8)))
    (gb9 : PySem.W.nsIn K mainGlobals "_places_among" = some (some (.ref fb9)))
    (gj1 : PySem.W.nsIn K mainGlobals "join_legs" = some (some (.ref fj1)))
    (gj2 : PySem.W.nsIn K mainGlobals "_end_beyond" = some (some (.ref fj2)))
    (gh1 : PySem.W.nsIn K mainGlobals "_many_places" = some (some (.ref fh1)))
    (gh2 : PySem.W.nsIn K mainGlobals "hanging" = some (some (.ref fh2)))
    (gh3 : PySem.W.nsIn K mainGlobals "cuts" = some (some (.ref fh3)))
    (gh4 : PySem.W.nsIn K mainGlobals "_part" = some (some (.ref fh4)))
    (gh5 : PySem.W.nsIn K mainGlobals "parts" = some (some (.ref fh5)))
    (gh6 : PySem.W.nsIn K mainGlobals "is_whole" = some (some (.ref fh6)))
    (gS : PySem.W.nsIn K mainGlobals "_law_source_of" = some (some (.ref fS)))
    (gN : PySem.W.nsIn K mainGlobals "_law_next" = some (some (.ref fN)))
    (gO : PySem.W.nsIn K mainGlobals "_law_one" = some (some (.ref fO)))
    (gW : PySem.W.nsIn K mainGlobals "_law_names" = some (some (.ref fW)))
    (gR : PySem.W.nsIn K mainGlobals "_law_stock" = some (some (.ref fR)))
    (gT : PySem.W.nsIn K mainGlobals "_law_ends" = some (some (.ref fT)))
    (gm : PySem.W.nsIn K mainGlobals "_law_lacking" = some (some (.ref fm)))
    (gB : PySem.W.nsIn K mainGlobals "_law_mixed" = some (some (.ref fB)))
    (gA : PySem.W.nsIn K mainGlobals "_law_paired" = some (some (.ref fA)))
    (gD : PySem.W.nsIn K mainGlobals "_law_drawing" = some (some (.ref fD)))
    (gb1 : PySem.W.nsIn K mainGlobals "_law_inner" = some (some (.ref fb1)))
    (gb5 : PySem.W.nsIn K mainGlobals "_law_made" = some (some (.ref fb5)))
    (gb6 : PySem.W.nsIn K mainGlobals "_law_right" = some (some (.ref fb6)))
    (gL : PySem.W.nsIn K mainGlobals "law" = some (some (.ref fL)))
    (aDD : PySem.W.nsIn K mainGlobals "Drawing" = some (some (.ref DD)))
    (aCJ : PySem.W.nsIn K mainGlobals "NoJoin" = some (some (.ref CJ)))
    (aCM : PySem.W.nsIn K mainGlobals "NoName" = some (some (.ref CM)))
    (aCT : PySem.W.nsIn K mainGlobals "TooMany" = some (some (.ref CT)))
    (aCL : PySem.W.nsIn K mainGlobals "NoLeg" = some (some (.ref CL)))
    (iDI : PySem.W.findIn K (.ref DD) "__init__" = some (some (.ref fa1)))
    (iDF : PySem.W.findIn K (.ref DD) "__eq__" = some (some (.ref fa2)))
    (iCE : PySem.W.findIn K (.ref C) "__eq__" = some (some (.ref fa3)))
    (iI : PySem.W.findIn K (.ref C) "__init__" = some (some (.ref fI)))
    (iX : PySem.W.findIn K (.ref CN) "__init__" = some (some (.ref fX)))
    (iV : PySem.W.findIn K (.ref CD) "__init__" = some (some (.ref fV)))
    (ln : K.lookup fn = some ⟨ocn, odn, .func (PySem.W.fnOf "is_name" "is_name" (defArgs sName) (defBody sName) (defScope sName) .none kVn dcn pmn ann cdn ctn), sln⟩)
    (cn_ : PySem.W.codeIn K cdn "is_name" = true)
    (kn : PySem.W.keepIn K (.ref fn) = true)
    (lp : K.lookup fp = some ⟨ocp, odp, .func (PySem.W.fnOf "is_pair" "is_pair" (defArgs sPair) (defBody sPair) (defScope sPair) .none kVp dcp pmp anp cdp ctp), slp⟩)
    (cp_ : PySem.W.codeIn K cdp "is_pair" = true)
    (kp : PySem.W.keepIn K (.ref fp) = true)
    (ll : K.lookup fl = some ⟨ocl, odl, .func (PySem.W.fnOf "is_list" "is_list" (defArgs sList) (defBody sList) (defScope sList) .none kVl dcl pml anl cdl ctl), sll⟩)
    (cl_ : PySem.W.codeIn K cdl "is_list" = true)
    (kl : PySem.W.keepIn K (.ref fl) = true)
    (lu : K.lookup fu = some ⟨ocu, odu, .func (PySem.W.fnOf "are_unlike" "are_unlike" (defArgs sUnlike) (defBody sUnlike) (defScope sUnlike) .none kVu dcu pmu anu cdu ctu), slu⟩)
    (cu_ : PySem.W.codeIn K cdu "are_unlike" = true)
    (ku : PySem.W.keepIn K (.ref fu) = true)
    (le : K.lookup fe = some ⟨oce, ode, .func (PySem.W.fnOf "_are_ends" "_are_ends" (defArgs sEnds) (defBody sEnds) (defScope sEnds) .none kVe dce pme ane cde cte), sle⟩)
    (ce_ : PySem.W.codeIn K cde "_are_ends" = true)
    (ke : PySem.W.keepIn K (.ref fe) = true)
    (lk : K.lookup fk = some ⟨ock, odk, .func (PySem.W.fnOf "_is_kind" "_is_kind" (defArgs sKind) (defBody sKind) (defScope sKind) .none kVk dck pmk ank cdk ctk), slk⟩)
    (ck_ : PySem.W.codeIn K cdk "_is_kind" = true)
    (kk : PySem.W.keepIn K (.ref fk) = true)
    (lK : K.lookup fK = some ⟨ocK, odK, .func (PySem.W.fnOf "_are_kinds" "_are_kinds" (defArgs sKinds) (defBody sKinds) (defScope sKinds) .none kVK dcK pmK anK cdK ctK), slK⟩)
    (cK_ : PySem.W.codeIn K cdK "_are_kinds" = true)
    (kK : PySem.W.keepIn K (.ref fK) = true)
    (ls : K.lookup fs = some ⟨ocs, ods, .func (PySem.W.fnOf "_are_sorts" "_are_sorts" (defArgs sSorts) (defBody sSorts) (defScope sSorts) .none kVs dcs pms ans cds cts), sls⟩)
    (cs_ : PySem.W.codeIn K cds "_are_sorts" = true)
    (ks : PySem.W.keepIn K (.ref fs) = true)
    (lI : K.lookup fI = some ⟨ocI, odI, .func (PySem.W.fnOf "__init__" "Stock.__init__" (defArgs sInit) (defBody sInit) (defScope sInit) .none kVI dcI pmI anI cdI ctI), slI⟩)
    (cI_ : PySem.W.codeIn K cdI "Stock.__init__" = true)
    (kI : PySem.W.keepIn K (.ref fI) = true)
    (lX : K.lookup fX = some ⟨ocX, odX, .func (PySem.W.fnOf "__init__" "NoStock.__init__" (defArgs sNoSt) (defBody sNoSt) (defScope sNoSt) .none kVX dcX pmX anX cdX ctX), slX⟩)
    (cX_ : PySem.W.codeIn K cdX "NoStock.__init__" = true)
    (kX : PySem.W.keepIn K (.ref fX) = true)
    (lV : K.lookup fV = some ⟨ocV, odV, .func (PySem.W.fnOf "__init__" "NoDrawing.__init__" (defArgs sNoDr) (defBody sNoDr) (defScope sNoDr) .none kVV dcV pmV anV cdV ctV), slV⟩)
    (cV_ : PySem.W.codeIn K cdV "NoDrawing.__init__" = true)
    (kV : PySem.W.keepIn K (.ref fV) = true)
    (lP : K.lookup fP = some ⟨ocP, odP, .func (PySem.W.fnOf "check_places" "check_places" (defArgs sPlaces) (defBody sPlaces) (defScope sPlaces) .none kVP dcP pmP anP cdP ctP), slP⟩)
    (cP_ : PySem.W.codeIn K cdP "check_places" = true)
    (kP : PySem.W.keepIn K (.ref fP) = true)
    (lc : K.lookup fc = some ⟨occ, odc, .func (PySem.W.fnOf "_are_corners" "_are_corners" (defArgs sCorners) (defBody sCorners) (defScope sCorners) .none kVc dcc pmc anc cdc ctc), slc⟩)
    (cc_ : PySem.W.codeIn K cdc "_are_corners" = true)
    (kc : PySem.W.keepIn K (.ref fc) = true)
    (lg : K.lookup fg = some ⟨ocg, odg, .func (PySem.W.fnOf "_are_legs" "_are_legs" (defArgs sLegs) (defBody sLegs) (defScope sLegs) .none kVg dcg pmg ang cdg ctg), slg⟩)
    (cg_ : PySem.W.codeIn K cdg "_are_legs" = true)
    (kg : PySem.W.keepIn K (.ref fg) = true)
    (li : K.lookup fi = some ⟨oci, odi, .func (PySem.W.fnOf "_is_leg" "_is_leg" (defArgs sIsLeg) (defBody sIsLeg) (defScope sIsLeg) .none kVi dci pmi ani cdi cti), sli⟩)
    (ci_ : PySem.W.codeIn K cdi "_is_leg" = true)
    (ki : PySem.W.keepIn K (.ref fi) = true)
    (la0 : K.lookup fa0 = some ⟨oca0, oda0, .func (PySem.W.fnOf "is_number" "is_number" (defArgs sNumber) (defBody sNumber) (defScope sNumber) .none kVa0 dca0 pma0 ana0 cda0 cta0), sla0⟩)
    (ca0_ : PySem.W.codeIn K cda0 "is_number" = true)
    (ka0 : PySem.W.keepIn K (.ref fa0) = true)
    (la1 : K.lookup fa1 = some ⟨oca1, oda1, .func (PySem.W.fnOf "__init__" "Drawing.__init__" (defArgs sDInit) (defBody sDInit) (defScope sDInit) .none kVa1 dca1 pma1 ana1 cda1 cta1), sla1⟩)
    (ca1_ : PySem.W.codeIn K cda1 "Drawing.__init__" = true)
    (ka1 : PySem.W.keepIn K (.ref fa1) = true)
    (la2 : K.lookup fa2 = some ⟨oca2, oda2, .func (PySem.W.fnOf "__eq__" "Drawing.__eq__" (defArgs sDEq) (defBody sDEq) (defScope sDEq) .none kVa2 dca2 pma2 ana2 cda2 cta2), sla2⟩)
    (ca2_ : PySem.W.codeIn K cda2 "Drawing.__eq__" = true)
    (ka2 : PySem.W.keepIn K (.ref fa2) = true)
    (la3 : K.lookup fa3 = some ⟨oca3, oda3, .func (PySem.W.fnOf "__eq__" "Stock.__eq__" (defArgs sEq) (defBody sEq) (defScope sEq) .none kVa3 dca3 pma3 ana3 cda3 cta3), sla3⟩)
    (ca3_ : PySem.W.codeIn K cda3 "Stock.__eq__" = true)
    (ka3 : PySem.W.keepIn K (.ref fa3) = true)
    (la4 : K.lookup fa4 = some ⟨oca4, oda4, .func (PySem.W.fnOf "_are_joins" "_are_joins" (defArgs sAreJoins) (defBody sAreJoins) (defScope sAreJoins) .none kVa4 dca4 pma4 ana4 cda4 cta4), sla4⟩)
    (ca4_ : PySem.W.codeIn K cda4 "_are_joins" = true)
    (ka4 : PySem.W.keepIn K (.ref fa4) = true)
    (la5 : K.lookup fa5 = some ⟨oca5, oda5, .func (PySem.W.fnOf "is_join" "is_join" (defArgs sIsJoin) (defBody sIsJoin) (defScope sIsJoin) .none kVa5 dca5 pma5 ana5 cda5 cta5), sla5⟩)
    (ca5_ : PySem.W.codeIn K cda5 "is_join" = true)
    (ka5 : PySem.W.keepIn K (.ref fa5) = true)
    (lE : K.lookup fE = some ⟨ocE, odE, .func (PySem.W.fnOf "all_ends" "all_ends" (defArgs sAllEnds) (defBody sAllEnds) (defScope sAllEnds) .none kVE dcE pmE anE cdE ctE), slE⟩)
    (cE_ : PySem.W.codeIn K cdE "all_ends" = true)
    (kE : PySem.W.keepIn K (.ref fE) = true)
    (la6 : K.lookup fa6 = some ⟨oca6, oda6, .func (PySem.W.fnOf "cut" "cut" (defArgs sCut) (defBody sCut) (defScope sCut) .none kVa6 dca6 pma6 ana6 cda6 cta6), sla6⟩)
    (ca6_ : PySem.W.codeIn K cda6 "cut" = true)
    (ka6 : PySem.W.keepIn K (.ref fa6) = true)
    (la7 : K.lookup fa7 = some ⟨oca7, oda7, .func (PySem.W.fnOf "moved" "moved" (defArgs sPMoved) (defBody sPMoved) (defScope sPMoved) .none kVa7 dca7 pma7 ana7 cda7 cta7), sla7⟩)
    (ca7_ : PySem.W.codeIn K cda7 "moved" = true)
    (ka7 : PySem.W.keepIn K (.ref fa7) = true)
    (la8 : K.lookup fa8 = some ⟨oca8, oda8, .func (PySem.W.fnOf "_is_inner" "_is_inner" (defArgs sInner) (defBody sInner) (defScope sInner) .none kVa8 dca8 pma8 ana8 cda8 cta8), sla8⟩)
    (ca8_ : PySem.W.codeIn K cda8 "_is_inner" = true)
    (ka8 : PySem.W.keepIn K (.ref fa8) = true)
    (la9 : K.lookup fa9 = some ⟨oca9, oda9, .func (PySem.W.fnOf "_has_inner" "_has_inner" (defArgs sHasInner) (defBody sHasInner) (defScope sHasInner) .none kVa9 dca9 pma9 ana9 cda9 cta9), sla9⟩)
    (ca9_ : PySem.W.codeIn K cda9 "_has_inner" = true)
    (ka9 : PySem.W.keepIn K (.ref fa9) = true)
    (lb8 : K.lookup fb8 = some ⟨ocb8, odb8, .func (PySem.W.fnOf "_are_new_names" "_are_new_names" (defArgs sNewNames) (defBody sNewNames) (defScope sNewNames) .none kVb8 dcb8 pmb8 anb8 cdb8 ctb8), slb8⟩)
    (cb8_ : PySem.W.codeIn K cdb8 "_are_new_names" = true)
    (kb8 : PySem.W.keepIn K (.ref fb8) = true)
    (lb9 : K.lookup fb9 = some ⟨ocb9, odb9, .func (PySem.W.fnOf "_places_among" "_places_among" (defArgs sAmong) (defBody sAmong) (defScope sAmong) .none kVb9 dcb9 pmb9 anb9 cdb9 ctb9), slb9⟩)
    (cb9_ : PySem.W.codeIn K cdb9 "_places_among" = true)
    (kb9 : PySem.W.keepIn K (.ref fb9) = true)
    (lj1 : K.lookup fj1 = some ⟨ocj1, odj1, .func (PySem.W.fnOf "join_legs" "join_legs" (defArgs sJoinLegs) (defBody sJoinLegs) (defScope sJoinLegs) .none kVj1 dcj1 pmj1 anj1 cdj1 ctj1), slj1⟩)
    (cj1_ : PySem.W.codeIn K cdj1 "join_legs" = true)
    (kj1 : PySem.W.keepIn K (.ref fj1) = true)
    (lj2 : K.lookup fj2 = some ⟨ocj2, odj2, .func (PySem.W.fnOf "_end_beyond" "_end_beyond" (defArgs sBeyond) (defBody sBeyond) (defScope sBeyond) .none kVj2 dcj2 pmj2 anj2 cdj2 ctj2), slj2⟩)
    (cj2_ : PySem.W.codeIn K cdj2 "_end_beyond" = true)
    (kj2 : PySem.W.keepIn K (.ref fj2) = true)
    (lh1 : K.lookup fh1 = some ⟨och1, odh1, .func (PySem.W.fnOf "_many_places" "_many_places" (defArgs sManyPl) (defBody sManyPl) (defScope sManyPl) .none kVh1 dch1 pmh1 anh1 cdh1 cth1), slh1⟩)
    (ch1_ : PySem.W.codeIn K cdh1 "_many_places" = true)
    (kh1 : PySem.W.keepIn K (.ref fh1) = true)
    (lh2 : K.lookup fh2 = some ⟨och2, odh2, .func (PySem.W.fnOf "hanging" "hanging" (defArgs sHang) (defBody sHang) (defScope sHang) .none kVh2 dch2 pmh2 anh2 cdh2 cth2), slh2⟩)
    (ch2_ : PySem.W.codeIn K cdh2 "hanging" = true)
    (kh2 : PySem.W.keepIn K (.ref fh2) = true)
    (lh3 : K.lookup fh3 = some ⟨och3, odh3, .func (PySem.W.fnOf "cuts" "cuts" (defArgs sCuts) (defBody sCuts) (defScope sCuts) .none kVh3 dch3 pmh3 anh3 cdh3 cth3), slh3⟩)
    (ch3_ : PySem.W.codeIn K cdh3 "cuts" = true)
    (kh3 : PySem.W.keepIn K (.ref fh3) = true)
    (lh4 : K.lookup fh4 = some ⟨och4, odh4, .func (PySem.W.fnOf "_part" "_part" (defArgs sPart) (defBody sPart) (defScope sPart) .none kVh4 dch4 pmh4 anh4 cdh4 cth4), slh4⟩)
    (ch4_ : PySem.W.codeIn K cdh4 "_part" = true)
    (kh4 : PySem.W.keepIn K (.ref fh4) = true)
    (lh5 : K.lookup fh5 = some ⟨och5, odh5, .func (PySem.W.fnOf "parts" "parts" (defArgs sParts) (defBody sParts) (defScope sParts) .none kVh5 dch5 pmh5 anh5 cdh5 cth5), slh5⟩)
    (ch5_ : PySem.W.codeIn K cdh5 "parts" = true)
    (kh5 : PySem.W.keepIn K (.ref fh5) = true)
    (lh6 : K.lookup fh6 = some ⟨och6, odh6, .func (PySem.W.fnOf "is_whole" "is_whole" (defArgs sIsWhole) (defBody sIsWhole) (defScope sIsWhole) .none kVh6 dch6 pmh6 anh6 cdh6 cth6), slh6⟩)
    (ch6_ : PySem.W.codeIn K cdh6 "is_whole" = true)
    (kh6 : PySem.W.keepIn K (.ref fh6) = true)
    (lS : K.lookup fS = some ⟨ocS, odS, .func (PySem.W.fnOf "_law_source_of" "_law_source_of" (defArgs sSrc) (defBody sSrc) (defScope sSrc) .none kVS dcS pmS anS cdS ctS), slS⟩)
    (cS_ : PySem.W.codeIn K cdS "_law_source_of" = true)
    (kS : PySem.W.keepIn K (.ref fS) = true)
    (lN : K.lookup fN = some ⟨ocN, odN, .func (PySem.W.fnOf "_law_next" "_law_next" (defArgs sNext) (defBody sNext) (defScope sNext) .none kVN dcN pmN anN cdN ctN), slN⟩)
    (cN_ : PySem.W.codeIn K cdN "_law_next" = true)
    (kN : PySem.W.keepIn K (.ref fN) = true)
    (lO : K.lookup fO = some ⟨ocO, odO, .func (PySem.W.fnOf "_law_one" "_law_one" (defArgs sOne) (defBody sOne) (defScope sOne) .none kVO dcO pmO anO cdO ctO), slO⟩)
    (cO_ : PySem.W.codeIn K cdO "_law_one" = true)
    (kO : PySem.W.keepIn K (.ref fO) = true)
    (lW : K.lookup fW = some ⟨ocW, odW, .func (PySem.W.fnOf "_law_names" "_law_names" (defArgs sNames) (defBody sNames) (defScope sNames) .none kVW dcW pmW anW cdW ctW), slW⟩)
    (cW_ : PySem.W.codeIn K cdW "_law_names" = true)
    (kW : PySem.W.keepIn K (.ref fW) = true)
    (lR : K.lookup fR = some ⟨ocR, odR, .func (PySem.W.fnOf "_law_stock" "_law_stock" (defArgs sStock) (defBody sStock) (defScope sStock) .none kVR dcR pmR anR cdR ctR), slR⟩)
    (cR_ : PySem.W.codeIn K cdR "_law_stock" = true)
    (kR : PySem.W.keepIn K (.ref fR) = true)
    (lT : K.lookup fT = some ⟨ocT, odT, .func (PySem.W.fnOf "_law_ends" "_law_ends" (defArgs sLEnds) (defBody sLEnds) (defScope sLEnds) .none kVT dcT pmT anT cdT ctT), slT⟩)
    (cT_ : PySem.W.codeIn K cdT "_law_ends" = true)
    (kT : PySem.W.keepIn K (.ref fT) = true)
    (lm : K.lookup fm = some ⟨ocm, odm, .func (PySem.W.fnOf "_law_lacking" "_law_lacking" (defArgs sLacking) (defBody sLacking) (defScope sLacking) .none kVm dcm pmm anm cdm ctm), slm⟩)
    (cm_ : PySem.W.codeIn K cdm "_law_lacking" = true)
    (km : PySem.W.keepIn K (.ref fm) = true)
    (lB : K.lookup fB = some ⟨ocB, odB, .func (PySem.W.fnOf "_law_mixed" "_law_mixed" (defArgs sMixed) (defBody sMixed) (defScope sMixed) .none kVB dcB pmB anB cdB ctB), slB⟩)
    (cB_ : PySem.W.codeIn K cdB "_law_mixed" = true)
    (kB : PySem.W.keepIn K (.ref fB) = true)
    (lA : K.lookup fA = some ⟨ocA, odA, .func (PySem.W.fnOf "_law_paired" "_law_paired" (defArgs sPaired) (defBody sPaired) (defScope sPaired) .none kVA dcA pmA anA cdA ctA), slA⟩)
    (cA_ : PySem.W.codeIn K cdA "_law_paired" = true)
    (kA : PySem.W.keepIn K (.ref fA) = true)
    (lD : K.lookup fD = some ⟨ocD, odD, .func (PySem.W.fnOf "_law_drawing" "_law_drawing" (defArgs sDrawing) (defBody sDrawing) (defScope sDrawing) .none kVD dcD pmD anD cdD ctD), slD⟩)
    (cD_ : PySem.W.codeIn K cdD "_law_drawing" = true)
    (kD : PySem.W.keepIn K (.ref fD) = true)
    (lb1 : K.lookup fb1 = some ⟨ocb1, odb1, .func (PySem.W.fnOf "_law_inner" "_law_inner" (defArgs sLInner) (defBody sLInner) (defScope sLInner) .none kVb1 dcb1 pmb1 anb1 cdb1 ctb1), slb1⟩)
    (cb1_ : PySem.W.codeIn K cdb1 "_law_inner" = true)
    (kb1 : PySem.W.keepIn K (.ref fb1) = true)
    (lb5 : K.lookup fb5 = some ⟨ocb5, odb5, .func (PySem.W.fnOf "_law_made" "_law_made" (defArgs sMade) (defBody sMade) (defScope sMade) .none kVb5 dcb5 pmb5 anb5 cdb5 ctb5), slb5⟩)
    (cb5_ : PySem.W.codeIn K cdb5 "_law_made" = true)
    (kb5 : PySem.W.keepIn K (.ref fb5) = true)
    (lb6 : K.lookup fb6 = some ⟨ocb6, odb6, .func (PySem.W.fnOf "_law_right" "_law_right" (defArgs sRight) (defBody sRight) (defScope sRight) .none kVb6 dcb6 pmb6 anb6 cdb6 ctb6), slb6⟩)
    (cb6_ : PySem.W.codeIn K cdb6 "_law_right" = true)
    (kb6 : PySem.W.keepIn K (.ref fb6) = true)
    (lL : K.lookup fL = some ⟨ocL, odL, .func (PySem.W.fnOf "law" "law" (defArgs sLaw) (defBody sLaw) (defScope sLaw) .none kVL dcL pmL anL cdL ctL), slL⟩)
    (cL_ : PySem.W.codeIn K cdL "law" = true)
    (kL : PySem.W.keepIn K (.ref fL) = true)
    (tb1 : stkB K C fI = true)
    (tb2 : nosB K CN fX = true)
    (tb3 : nosB K CD fV = true)
    (tb4 : drB K DD fa1 fa2 = true)
    (tb5 : eqB K C fa3 = true)
    (tb6 : paB K CJ = true)
    (tb7 : paB K CM = true)
    (tb8 : paB K CT = true)
    (tb9 : paB K CL = true)
    (z_abs : PySem.W.nsIn K mainGlobals "abs" = some none)
    (z_len : PySem.W.nsIn K mainGlobals "len" = some none)
    (z_range : PySem.W.nsIn K mainGlobals "range" = some none)
    (z_isinstance : PySem.W.nsIn K mainGlobals "isinstance" = some none)
    (z_str : PySem.W.nsIn K mainGlobals "str" = some none)
    (z_tuple : PySem.W.nsIn K mainGlobals "tuple" = some none)
    (z_list : PySem.W.nsIn K mainGlobals "list" = some none)
    (z_all : PySem.W.nsIn K mainGlobals "all" = some none)
    (z_set : PySem.W.nsIn K mainGlobals "set" = some none)
    (z_dict : PySem.W.nsIn K mainGlobals "dict" = some none)
    (z_sorted : PySem.W.nsIn K mainGlobals "sorted" = some none)
    (z_enumerate : PySem.W.nsIn K mainGlobals "enumerate" = some none)
    (z_bool : PySem.W.nsIn K mainGlobals "bool" = some none)
    (z_int : PySem.W.nsIn K mainGlobals "int" = some none)
    (z_max : PySem.W.nsIn K mainGlobals "max" = some none)
    (z_min : PySem.W.nsIn K mainGlobals "min" = some none)
    (z_zip : PySem.W.nsIn K mainGlobals "zip" = some none) :
    ∃ fd : FuncData, (∀ (s : Shared) (v : Value), BindsTo s fd ⟨[v], []⟩ [("_law_script", v)]) ∧ ∀ base : Heap, K.In base → base.Ns mainGlobals mg → FnOk l.prog w K mg base CX0 10 fa fd ["_law_script"] (spLaw K) := by
  have e := hfa.symm.trans (PySem.W.mg_of X G gL)
  cases e
  have mo := fun {n : Str} {v : Value} (q : PySem.W.nsIn K mainGlobals n = some (some v)) => PySem.W.mg_of X G q
  have mz := fun {n : Str} (q : PySem.W.nsIn K mainGlobals n = some none) => PySem.W.mg_none_of X G q
  have oN := nos_of (mg := mg) tb2 xl1 rb1
  have oD := nos_of (mg := mg) tb3 xl2 rb2
  obtain ⟨T, mk⟩ := stk_of (mg := mg) tb1 oN (mo aC) (mo aCN)
  have N : NoDrC K mg CD fV := ⟨oD.1, oD.2.1, oD.2.2.1, oD.2.2.2, mo aCD⟩
  have M : Mods mg := ⟨⟨_, mo c0⟩, ⟨_, mo c1⟩, ⟨_, mo c2⟩, ⟨_, mo c3⟩, ⟨_, mo c4⟩, mz z_isinstance, mz z_str, mz z_tuple, mz z_list, mz z_len, mz z_all, mz z_set, mz z_dict, mz z_sorted⟩
  obtain ⟨TD, TE, mkD, EQD, nfD⟩ := dr_of (mg := mg) tb4 (mo aDD)
  obtain ⟨EQ, nf⟩ := eq_of tb5
  have NXJ := pa_of tb6
  have NXM := pa_of tb7
  have NXT := pa_of tb8
  have NXL := pa_of tb9
  have Fn := fun_mk (st := sName) ln cn_ kn
  have Fp := fun_mk (st := sPair) lp cp_ kp
  have Fl := fun_mk (st := sList) ll cl_ kl
  have Fu := fun_mk (st := sUnlike) lu cu_ ku
  have Fe := fun_mk (st := sEnds) le ce_ ke
  have Fk := fun_mk (st := sKind) lk ck_ kk
  have FK := fun_mk (st := sKinds) lK cK_ kK
  have Fs := fun_mk (st := sSorts) ls cs_ ks
  have FI := fun_mk (st := sInit) lI cI_ kI
  have FX := fun_mk (st := sNoSt) lX cX_ kX
  have FV := fun_mk (st := sNoDr) lV cV_ kV
  have FP := fun_mk (st := sPlaces) lP cP_ kP
  have Fc := fun_mk (st := sCorners) lc cc_ kc
  have Fg := fun_mk (st := sLegs) lg cg_ kg
  have Fi := fun_mk (st := sIsLeg) li ci_ ki
  have Fa0 := fun_mk (st := sNumber) la0 ca0_ ka0
  have Fa1 := fun_mk (st := sDInit) la1 ca1_ ka1
  have Fa2 := fun_mk (st := sDEq) la2 ca2_ ka2
  have Fa3 := fun_mk (st := sEq) la3 ca3_ ka3
  have Fa4 := fun_mk (st := sAreJoins) la4 ca4_ ka4
  have Fa5 := fun_mk (st := sIsJoin) la5 ca5_ ka5
  have FE := fun_mk (st := sAllEnds) lE cE_ kE
  have Fa6 := fun_mk (st := sCut) la6 ca6_ ka6
  have Fa7 := fun_mk (st := sPMoved) la7 ca7_ ka7
  have Fa8 := fun_mk (st := sInner) la8 ca8_ ka8
  have Fa9 := fun_mk (st := sHasInner) la9 ca9_ ka9
  have Fb8 := fun_mk (st := sNewNames) lb8 cb8_ kb8
  have Fb9 := fun_mk (st := sAmong) lb9 cb9_ kb9
  have Fj1 := fun_mk (st := sJoinLegs) lj1 cj1_ kj1
  have Fj2 := fun_mk (st := sBeyond) lj2 cj2_ kj2
  have Fh1 := fun_mk (st := sManyPl) lh1 ch1_ kh1
  have Fh2 := fun_mk (st := sHang) lh2 ch2_ kh2
  have Fh3 := fun_mk (st := sCuts) lh3 ch3_ kh3
  have Fh4 := fun_mk (st := sPart) lh4 ch4_ kh4
  have Fh5 := fun_mk (st := sParts) lh5 ch5_ kh5
  have Fh6 := fun_mk (st := sIsWhole) lh6 ch6_ kh6
  have FS := fun_mk (st := sSrc) lS cS_ kS
  have FN := fun_mk (st := sNext) lN cN_ kN
  have FO := fun_mk (st := sOne) lO cO_ kO
  have FW := fun_mk (st := sNames) lW cW_ kW
  have FR := fun_mk (st := sStock) lR cR_ kR
  have FT := fun_mk (st := sLEnds) lT cT_ kT
  have Fm := fun_mk (st := sLacking) lm cm_ km
  have FB := fun_mk (st := sMixed) lB cB_ kB
  have FA := fun_mk (st := sPaired) lA cA_ kA
  have FD := fun_mk (st := sDrawing) lD cD_ kD
  have Fb1 := fun_mk (st := sLInner) lb1 cb1_ kb1
  have Fb5 := fun_mk (st := sMade) lb5 cb5_ kb5
  have Fb6 := fun_mk (st := sRight) lb6 cb6_ kb6
  have FL := fun_mk (st := sLaw) lL cL_ kL
  have bn := Fn.binds (ps := ["thing"]) fun _ _ _ _ _ _ us hl => match us, hl with | [_], _ => rfl
  have bp := Fp.binds (ps := ["thing"]) fun _ _ _ _ _ _ us hl => match us, hl with | [_], _ => rfl
  have bl := Fl.binds (ps := ["thing", "fewest", "most"]) fun _ _ _ _ _ _ us hl => match us, hl with | [_, _, _], _ => rfl
  have bu := Fu.binds (ps := ["things"]) fun _ _ _ _ _ _ us hl => match us, hl with | [_], _ => rfl
  have be := Fe.binds (ps := ["ends", "partners"]) fun _ _ _ _ _ _ us hl => match us, hl with | [_, _], _ => rfl
  have bk := Fk.binds (ps := ["row", "partners"]) fun _ _ _ _ _ _ us hl => match us, hl with | [_, _], _ => rfl
  have bK := FK.binds (ps := ["kinds", "partners"]) fun _ _ _ _ _ _ us hl => match us, hl with | [_, _], _ => rfl
  have bs := Fs.binds (ps := ["sorts"]) fun _ _ _ _ _ _ us hl => match us, hl with | [_], _ => rfl
  have bI := FI.binds (ps := ["self", "sorts", "kinds"]) fun _ _ _ _ _ _ us hl => match us, hl with | [_, _, _], _ => rfl
  have bX := FX.binds (ps := ["self", "part"]) fun _ _ _ _ _ _ us hl => match us, hl with | [_, _], _ => rfl
  have bV := FV.binds (ps := ["self", "part"]) fun _ _ _ _ _ _ us hl => match us, hl with | [_, _], _ => rfl
  have bP := FP.binds (ps := ["stock", "corners", "legs"]) fun _ _ _ _ _ _ us hl => match us, hl with | [_, _, _], _ => rfl
  have bc := Fc.binds (ps := ["stock", "corners"]) fun _ _ _ _ _ _ us hl => match us, hl with | [_, _], _ => rfl
  have bg := Fg.binds (ps := ["stock", "legs"]) fun _ _ _ _ _ _ us hl => match us, hl with | [_, _], _ => rfl
  have bi := Fi.binds (ps := ["leg", "partners"]) fun _ _ _ _ _ _ us hl => match us, hl with | [_, _], _ => rfl
  have ba0 := Fa0.binds (ps := ["thing"]) fun _ _ _ _ _ _ us hl => match us, hl with | [_], _ => rfl
  have ba1 := Fa1.binds (ps := ["self", "stock", "corners", "legs", "joins"]) fun _ _ _ _ _ _ us hl => match us, hl with | [_, _, _, _, _], _ => rfl
  have ba2 := Fa2.binds (ps := ["self", "other"]) fun _ _ _ _ _ _ us hl => match us, hl with | [_, _], _ => rfl
  have ba3 := Fa3.binds (ps := ["self", "other"]) fun _ _ _ _ _ _ us hl => match us, hl with | [_, _], _ => rfl
  have ba4 := Fa4.binds (ps := ["stock", "corners", "legs", "joins"]) fun _ _ _ _ _ _ us hl => match us, hl with | [_, _, _, _], _ => rfl
  have ba5 := Fa5.binds (ps := ["stock", "row"]) fun _ _ _ _ _ _ us hl => match us, hl with | [_, _], _ => rfl
  have bE := FE.binds (ps := ["stock", "corners", "legs"]) fun _ _ _ _ _ _ us hl => match us, hl with | [_, _, _], _ => rfl
  have ba6 := Fa6.binds (ps := ["drawing", "join", "names"]) fun _ _ _ _ _ _ us hl => match us, hl with | [_, _, _], _ => rfl
  have ba7 := Fa7.binds (ps := ["joins", "places"]) fun _ _ _ _ _ _ us hl => match us, hl with | [_, _], _ => rfl
  have ba8 := Fa8.binds (ps := ["drawing", "join"]) fun _ _ _ _ _ _ us hl => match us, hl with | [_, _], _ => rfl
  have ba9 := Fa9.binds (ps := ["drawing", "join"]) fun _ _ _ _ _ _ us hl => match us, hl with | [_, _], _ => rfl
  have bb8 := Fb8.binds (ps := ["drawing", "names"]) fun _ _ _ _ _ _ us hl => match us, hl with | [_, _], _ => rfl
  have bb9 := Fb9.binds (ps := ["drawing", "legs"]) fun _ _ _ _ _ _ us hl => match us, hl with | [_, _], _ => rfl
  have bj1 := Fj1.binds (ps := ["drawing", "one", "other"]) fun _ _ _ _ _ _ us hl => match us, hl with | [_, _, _], _ => rfl
  have bj2 := Fj2.binds (ps := ["drawing", "leg_place"]) fun _ _ _ _ _ _ us hl => match us, hl with | [_, _], _ => rfl
  have bh1 := Fh1.binds (ps := ["drawing"]) fun _ _ _ _ _ _ us hl => match us, hl with | [_], _ => rfl
  have bh2 := Fh2.binds (ps := ["many", "joins"]) fun _ _ _ _ _ _ us hl => match us, hl with | [_, _], _ => rfl
  have bh3 := Fh3.binds (ps := ["drawing"]) fun _ _ _ _ _ _ us hl => match us, hl with | [_], _ => rfl
  have bh4 := Fh4.binds (ps := ["drawing", "places"]) fun _ _ _ _ _ _ us hl => match us, hl with | [_, _], _ => rfl
  have bh5 := Fh5.binds (ps := ["drawing"]) fun _ _ _ _ _ _ us hl => match us, hl with | [_], _ => rfl
  have bh6 := Fh6.binds (ps := ["drawing"]) fun _ _ _ _ _ _ us hl => match us, hl with | [_], _ => rfl
  have bS := FS.binds (ps := ["_law_cell"]) fun _ _ _ _ _ _ us hl => match us, hl with | [_], _ => rfl
  have bN := FN.binds (ps := ["_law_source", "_law_many"]) fun _ _ _ _ _ _ us hl => match us, hl with | [_, _], _ => rfl
  have bO := FO.binds (ps := ["_law_source", "_law_some"]) fun _ _ _ _ _ _ us hl => match us, hl with | [_, _], _ => rfl
  have bW := FW.binds (ps := ["_law_source", "_law_many"]) fun _ _ _ _ _ _ us hl => match us, hl with | [_, _], _ => rfl
  have bR := FR.binds (ps := ["_law_source", "_law_most"]) fun _ _ _ _ _ _ us hl => match us, hl with | [_, _], _ => rfl
  have bT := FT.binds (ps := ["_law_kinds", "_law_corners", "_law_legs"]) fun _ _ _ _ _ _ us hl => match us, hl with | [_, _, _], _ => rfl
  have bm := Fm.binds (ps := ["_law_sorts", "_law_ends_here"]) fun _ _ _ _ _ _ us hl => match us, hl with | [_, _], _ => rfl
  have bB := FB.binds (ps := ["_law_source", "_law_some"]) fun _ _ _ _ _ _ us hl => match us, hl with | [_, _], _ => rfl
  have bA := FA.binds (ps := ["_law_source", "_law_sorts", "_law_ends_here"]) fun _ _ _ _ _ _ us hl => match us, hl with | [_, _, _], _ => rfl
  have bD := FD.binds (ps := ["_law_source", "_law_sorts", "_law_kinds", "_law_most"]) fun _ _ _ _ _ _ us hl => match us, hl with | [_, _, _, _], _ => rfl
  have bb1 := Fb1.binds (ps := ["_law_drawn"]) fun _ _ _ _ _ _ us hl => match us, hl with | [_], _ => rfl
  have bb5 := Fb5.binds (ps := ["_law_stock_here", "_law_drawn"]) fun _ _ _ _ _ _ us hl => match us, hl with | [_, _], _ => rfl
  have bb6 := Fb6.binds (ps := ["_law_drawing_here", "_law_join", "_law_names_here"]) fun _ _ _ _ _ _ us hl => match us, hl with | [_, _, _], _ => rfl
  refine ⟨PySem.W.fnOf "law" "law" (defArgs sLaw) (defBody sLaw) (defScope sLaw) .none kVL dcL pmL anL cdL ctL, fun s v => .of_eq rfl, fun base hb1 hb2 => ?_⟩
  have Gn : FnOk l.prog w K mg base CX0 1 fn _ ["thing"] spName := ok_name Fn M
  have Gp : FnOk l.prog w K mg base CX0 1 fp _ ["thing"] spPair := ok_pair Fp M
  have Gl : FnOk l.prog w K mg base CX0 1 fl _ ["thing", "fewest", "most"] spList := ok_list Fl M
  have Gu : FnOk l.prog w K mg base CX0 1 fu _ ["things"] (spUnlike K) := ok_unlike Fu M
  have Ge : FnOk l.prog w K mg base CX0 2 fe _ ["ends", "partners"] spEnds := ok_ends Fe M Gn kn bn (mo gn)
  have Gk : FnOk l.prog w K mg base CX0 3 fk _ ["row", "partners"] spKind := ok_kind Fk Gp kp bp (mo gp) Gn kn bn (mo gn) Ge ke be (mo ge)
  have GK : FnOk l.prog w K mg base CX0 4 fK _ ["kinds", "partners"] spKinds := ok_kinds FK M Gl kl bl (mo gl) Gk kk bk (mo gk) Gu ku bu (mo gu)
  have Gs : FnOk l.prog w K mg base CX0 2 fs _ ["sorts"] spSorts := ok_sorts Fs M Gl kl bl (mo gl) Gp kp bp (mo gp) Gn kn bn (mo gn)
  have GX : FnOk l.prog w K mg base CX0 1 fX _ ["self", "part"] (spExI CN "part") := ok_exinit rfl scNoSt rfl rfl (by decide) (by decide) FX T.ox T.noP
  have GI : FnOk l.prog w K mg base (L2.CX l.prog w) 5 fI _ ["self", "sorts", "kinds"] (spInit C CN) := ok_init FI M T Gs ks bs (mo gs) GK kK bK (mo gK) GX bX
  have GV : FnOk l.prog w K mg base CX0 1 fV _ ["self", "part"] (spExI CD "part") := ok_exinit rfl scNoDr rfl rfl (by decide) (by decide) FV N.ox N.noP
  have Gc : FnOk l.prog w K mg base CX0 2 fc _ ["stock", "corners"] (spCorners C) := ok_corners Fc M T ⟨_, mo c5⟩ Gl kl bl (mo gl) Gn kn bn (mo gn)
  have Gi : FnOk l.prog w K mg base CX0 2 fi _ ["leg", "partners"] spIsLeg := ok_isLeg Fi Gp kp bp (mo gp) Gn kn bn (mo gn)
  have Gg : FnOk l.prog w K mg base CX0 3 fg _ ["stock", "legs"] (spLegs C) := ok_legs Fg M T ⟨_, mo c6⟩ Gl kl bl (mo gl) Gi ki bi (mo gi) Gu ku bu (mo gu)
  have GP : FnOk l.prog w K mg base (L2.CX l.prog w) 4 fP _ ["stock", "corners", "legs"] (spPlaces C CD) := ok_places FP N Gc kc bc (mo gc) Gg kg bg (mo gg) GV bV
  have Ga0 : FnOk l.prog w K mg base CX0 1 fa0 _ ["thing"] spNumber := ok_number Fa0 M (mz z_int) (mz z_bool)
  have Ga3 : FnOk l.prog w K mg base CX0 1 fa3 _ ["self", "other"] (spSEq K C) := ok_eq Fa3 M T
  have GE : FnOk l.prog w K mg base CX0 1 fE _ ["stock", "corners", "legs"] (spAllEnds C) := ok_allEnds FE M T (mz z_enumerate)
  have Ga5 : FnOk l.prog w K mg base CX0 2 fa5 _ ["stock", "row"] (spIsJoin C) := ok_isJoin Fa5 M T Ga0 ka0 ba0 (mo ga0)
  have Ga4 : FnOk l.prog w K mg base CX0 3 fa4 _ ["stock", "corners", "legs", "joins"] (spAreJoins C) := ok_areJoins Fa4 M T Ga5 ka5 ba5 (mo ga5) GE kE bE (mo gE)
  have Ga1 : FnOk l.prog w K mg base (L2.CX l.prog w) 5 fa1 _ ["self", "stock", "corners", "legs", "joins"] (spDInit C DD) := ok_dInit Fa1 M N TD GP kP bP (mo gP) Ga4 ka4 ba4 (mo ga4) GV bV
  have Ga2 : FnOk l.prog w K mg base CX0 2 fa2 _ ["self", "other"] (spDEqG K C DD) := ok_dEqG Fa2 M T TD TE EQ nf Ga3 ba3
  have Ga7 : FnOk l.prog w K mg base CX0 1 fa7 _ ["joins", "places"] spPMoved := ok_pmoved Fa7 M (mz z_min) (mz z_max)
  have Ga8 : FnOk l.prog w K mg base CX0 1 fa8 _ ["drawing", "join"] (spInner C DD) := ok_inner Fa8 M TD
  have Ga9 : FnOk l.prog w K mg base CX0 3 fa9 _ ["drawing", "join"] (spHasInner C DD) := ok_hasInner Fa9 M TD Ga5 ka5 ba5 (mo ga5) Ga8 ka8 ba8 (mo ga8)
  have Gb8 : FnOk l.prog w K mg base CX0 2 fb8 _ ["drawing", "names"] (spNewNames C DD) := ok_newNames Fb8 M TD Gp kp bp (mo gp) Gn kn bn (mo gn)
  have Gb9 : FnOk l.prog w K mg base CX0 1 fb9 _ ["drawing", "legs"] (spAmong C DD) := ok_among Fb9 M TD (mz z_range) (mz z_enumerate)
  have Ga6 : FnOk l.prog w K mg base (L2.CX l.prog w) 7 fa6 _ ["drawing", "join", "names"] (spCut C DD) := ok_cut Fa6 M T TD mkD PySem.F.excBase_ValueError NXJ (mo aCJ) NXM (mo aCM) NXT (mo aCT) ⟨_, mo c6⟩ Ga9 ka9 ba9 (mo ga9) Gb8 kb8 bb8 (mo gb8) Ga7 ka7 ba7 (mo ga7) Gb9 kb9 bb9 (mo gb9) Ga1 ba1 (mz z_zip)
  have Ga7D : FnOk l.prog w K mg base CX0 1 fa7 _ ["joins", "places"] spPMovedD := ok_pmovedD Fa7 M (mz z_min) (mz z_max)
  have Gj2 : FnOk l.prog w K mg base CX0 1 fj2 _ ["drawing", "leg_place"] (spBeyond C DD) := ok_beyond Fj2 M TD
  have Gj1 : FnOk l.prog w K mg base (L2.CX l.prog w) 7 fj1 _ ["drawing", "one", "other"] (spJoinLegs C DD CJ) := ok_joinLegs Fj1 M T TD mkD PySem.F.excBase_ValueError NXL (mo aCL) NXJ (mo aCJ) Gn kn bn (mo gn) Gj2 kj2 bj2 (mo gj2) Ga7 ka7 ba7 (mo ga7) Gb9 kb9 bb9 (mo gb9) Ga1 ba1
  have Gh1 : FnOk l.prog w K mg base CX0 1 fh1 _ ["drawing"] (spManyPl C DD) := ok_manyPl Fh1 M TD
  have Gh2 : FnOk l.prog w K mg base CX0 1 fh2 _ ["many", "joins"] spHang := ok_hang Fh2 M (mz z_range) (mz z_enumerate)
  have Gh3 : FnOk l.prog w K mg base CX0 2 fh3 _ ["drawing"] (spCuts C DD) := ok_cuts Fh3 M TD (mz z_enumerate) Gh1 kh1 bh1 (mo gh1) Gh2 kh2 bh2 (mo gh2) Ga8 ka8 ba8 (mo ga8)
  have Gh4 : FnOk l.prog w K mg base (L2.CX l.prog w) 7 fh4 _ ["drawing", "places"] (spPart C DD) := ok_part Fh4 M TD mkD (mz z_enumerate) Ga1 ba1 Ga7D ka7 ba7 (mo ga7)
  have Gh5 : FnOk l.prog w K mg base (L2.CX l.prog w) 8 fh5 _ ["drawing"] (spParts C DD) := ok_parts Fh5 M TD Gh4 kh4 bh4 (mo gh4) Gh1 kh1 bh1 (mo gh1) Gh2 kh2 bh2 (mo gh2)
  have Gh6 : FnOk l.prog w K mg base CX0 2 fh6 _ ["drawing"] (spIsWhole C DD) := ok_isWhole Fh6 M TD Gh1 kh1 bh1 (mo gh1) Gh2 kh2 bh2 (mo gh2)
  have GS : FnOk l.prog w K mg base CX0 1 fS _ ["_law_cell"] spSrc := ok_src FS (mz z_int)
  have GN : FnOk l.prog w K mg base CX0 1 fN _ ["_law_source", "_law_many"] spNext := ok_next FN
  have GO : FnOk l.prog w K mg base CX0 2 fO _ ["_law_source", "_law_some"] spOne := ok_one FO FN bN (mo gN) (mz z_len)
  have GW : FnOk l.prog w K mg base CX0 3 fW _ ["_law_source", "_law_many"] spNames := ok_names FW GN kN bN (mo gN) GO kO bO (mo gO) (mz z_range)
  have GR : FnOk l.prog w K mg base CX0 4 fR _ ["_law_source", "_law_most"] spStock := ok_stock FR M GN kN bN (mo gN) GO kO bO (mo gO) GW kW bW (mo gW) (mz z_range)
  have GT : FnOk l.prog w K mg base CX0 1 fT _ ["_law_kinds", "_law_corners", "_law_legs"] spLEnds := ok_lEnds FT M (mz z_enumerate) (mz z_range)
  have Gm : FnOk l.prog w K mg base CX0 1 fm _ ["_law_sorts", "_law_ends_here"] spLacking := ok_lacking Fm M (mz z_max)
  have GB : FnOk l.prog w K mg base CX0 2 fB _ ["_law_source", "_law_some"] spMixed := ok_mixed FB M GN kN bN (mo gN)
  have GA : FnOk l.prog w K mg base CX0 3 fA _ ["_law_source", "_law_sorts", "_law_ends_here"] spPaired := ok_paired FA M GB kB bB (mo gB) (mz z_range) (mz z_min) (mz z_max)
  have GD : FnOk l.prog w K mg base CX0 4 fD _ ["_law_source", "_law_sorts", "_law_kinds", "_law_most"] spDrawing := ok_drawing FD M GN kN bN (mo gN) GO kO bO (mo gO) GW kW bW (mo gW) GB kB bB (mo gB) Gm km bm (mo gm) GT kT bT (mo gT) GA kA bA (mo gA) (mz z_range)
  have Gb1 : FnOk l.prog w K mg base CX0 1 fb1 _ ["_law_drawn"] spLInner := ok_linner Fb1 M
  have Gb5 : FnOk l.prog w K mg base (L2.CX l.prog w) 7 fb5 _ ["_law_stock_here", "_law_drawn"] (spMade C DD) := ok_made Fb5 M TD mkD Ga1 ba1
  have Gb6 : FnOk l.prog w K mg base CX0 9 fb6 _ ["_law_drawing_here", "_law_join", "_law_names_here"] (spRight48 C DD) := ok_right (CJ := CJ) Fb6 M TD TE EQD nfD (mz z_int) Ga6 ka6 ba6 (mo ga6) Gh3 kh3 bh3 (mo gh3) Gh6 kh6 bh6 (mo gh6) Gh5 kh5 bh5 (mo gh5) Gj1 kj1 bj1 (mo gj1) Ga2 ba2
  exact ok_law FL M T TD mk (mz z_int) GI bI GS kS bS (mo gS) GR kR bR (mo gR) GD kD bD (mo gD) GB kB bB (mo gB) Gb1 kb1 bb1 (mo gb1) Gb5 kb5 bb5 (mo gb5) Gb6 kb6 bb6 (mo gb6)
end Toy
set_option Elab.async false
set_option linter.all false
set_option maxRecDepth 100000
open PySem PySem.W PyProof.Rows
set_option maxHeartbeats 0 in
theorem PySem.Challenge.cw_endsum_k48_whole_cut_and_sewn_holds : PySem.Challenge.rw_endsum_k48_whole_cut_and_sewn.Holds := by
  w_on; o_law; k_head; (case hw => w_witness2)
  k_fill
  refine L2.walk_of (l := PySem.Challenge.rw_endsum_k48_whole_cut_and_sewn) (n := 63) (k := 10) (x := "_law_script") (CX := fun _ => L2.CX0) (sp := fun w => Toy.spLaw _) rfl (by decide) rfl ⟨rfl, by decide, by decide⟩ (fun w h Y => PySem.W.kIn_of Y) ?F (fun _ _ a ns hl _ hS => ⟨a, ns, rfl, hS, hl, fun _ => rfl⟩) (fun _ _ _ _ _ h => h)
  case F =>
    intro w mg fa h KX G hmg
    refine' Toy.all_mk KX G hmg ?q_aC ?q_aCN ?q_aCD ?q_c0 ?q_c1 ?q_c2 ?q_c3 ?q_c4 ?q_c5 ?q_c6 ?q_xl1 ?q_rb1 ?q_xl2 ?q_rb2 ?q_gn ?q_gp ?q_gl ?q_gu ?q_ge ?q_gk ?q_gK ?q_gs ?q_gP ?q_gc ?q_gg ?q_gi ?q_ga0 ?q_ga4 ?q_ga5 ?q_gE ?q_ga6 ?q_ga7 ?q_ga8 ?q_ga9 ?q_gb8 ?q_gb9 ?q_gj1 ?q_gj2 ?q_gh1 ?q_gh2 ?q_gh3 ?q_gh4 ?q_gh5 ?q_gh6 ?q_gS ?q_gN ?q_gO ?q_gW ?q_gR ?q_gT ?q_gm ?q_gB ?q_gA ?q_gD ?q_gb1 ?q_gb5 ?q_gb6 ?q_gL ?q_aDD ?q_aCJ ?q_aCM ?q_aCT ?q_aCL ?q_iDI ?q_iDF ?q_iCE ?q_iI ?q_iX ?q_iV ?q_ln ?q_cn_ ?q_kn ?q_lp ?q_cp_ ?q_kp ?q_ll ?q_cl_ ?q_kl ?q_lu ?q_cu_ ?q_ku ?q_le ?q_ce_ ?q_ke ?q_lk ?q_ck_ ?q_kk ?q_lK ?q_cK_ ?q_kK ?q_ls ?q_cs_ ?q_ks ?q_lI ?q_cI_ ?q_kI ?q_lX ?q_cX_ ?q_kX ?q_lV ?q_cV_ ?q_kV ?q_lP ?q_cP_ ?q_kP ?q_lc ?q_cc_ ?q_kc ?q_lg ?q_cg_ ?q_kg ?q_li ?q_ci_ ?q_ki ?q_la0 ?q_ca0_ ?q_ka0 ?q_la1 ?q_ca1_ ?q_ka1 ?q_la2 ?q_ca2_ ?q_ka2 ?q_la3 ?q_ca3_ ?q_ka3 ?q_la4 ?q_ca4_ ?q_ka4 ?q_la5 ?q_ca5_ ?q_ka5 ?q_lE ?q_cE_ ?q_kE ?q_la6 ?q_ca6_ ?q_ka6 ?q_la7 ?q_ca7_ ?q_ka7 ?q_la8 ?q_ca8_ ?q_ka8 ?q_la9 ?q_ca9_ ?q_ka9 ?q_lb8 ?q_cb8_ ?q_kb8 ?q_lb9 ?q_cb9_ ?q_kb9 ?q_lj1 ?q_cj1_ ?q_kj1 ?q_lj2 ?q_cj2_ ?q_kj2 ?q_lh1 ?q_ch1_ ?q_kh1 ?q_lh2 ?q_ch2_ ?q_kh2 ?q_lh3 ?q_ch3_ ?q_kh3 ?q_lh4 ?q_ch4_ ?q_kh4 ?q_lh5 ?q_ch5_ ?q_kh5 ?q_lh6 ?q_ch6_ ?q_kh6 ?q_lS ?q_cS_ ?q_kS ?q_lN ?q_cN_ ?q_kN ?q_lO ?q_cO_ ?q_kO ?q_lW ?q_cW_ ?q_kW ?q_lR ?q_cR_ ?q_kR ?q_lT ?q_cT_ ?q_kT ?q_lm ?q_cm_ ?q_km ?q_lB ?q_cB_ ?q_kB ?q_lA ?q_cA_ ?q_kA ?q_lD ?q_cD_ ?q_kD ?q_lb1 ?q_cb1_ ?q_kb1 ?q_lb5 ?q_cb5_ ?q_kb5 ?q_lb6 ?q_cb6_ ?q_kb6 ?q_lL ?q_cL_ ?q_kL ?q_tb1 ?q_tb2 ?q_tb3 ?q_tb4 ?q_tb5 ?q_tb6 ?q_tb7 ?q_tb8 ?q_tb9 ?q_z_abs ?q_z_len ?q_z_range ?q_z_isinstance ?q_z_str ?q_z_tuple ?q_z_list ?q_z_all ?q_z_set ?q_z_dict ?q_z_sorted ?q_z_enumerate ?q_z_bool ?q_z_int ?q_z_max ?q_z_min ?q_z_zip
    (case q_aC => k_is)
    (case q_aCN => k_is)
    (case q_aCD => k_is)
    (case q_c0 => k_is)
    (case q_c1 => k_is)
    (case q_c2 => k_is)
    (case q_c3 => k_is)
    (case q_c4 => k_is)
    (case q_c5 => k_is)
    (case q_c6 => k_is)
    (case q_xl1 => k_is)
    (case q_rb1 => rfl)
    (case q_xl2 => k_is)
    (case q_rb2 => rfl)
    (case q_gn => k_is)
    (case q_gp => k_is)
    (case q_gl => k_is)
    (case q_gu => k_is)
    (case q_ge => k_is)
    (case q_gk => k_is)
    (case q_gK => k_is)
    (case q_gs => k_is)
    (case q_gP => k_is)
    (case q_gc => k_is)
    (case q_gg => k_is)
    (case q_gi => k_is)
    (case q_ga0 => k_is)
    (case q_ga4 => k_is)
    (case q_ga5 => k_is)
    (case q_gE => k_is)
    (case q_ga6 => k_is)
    (case q_ga7 => k_is)
    (case q_ga8 => k_is)
    (case q_ga9 => k_is)
    (case q_gb8 => k_is)
    (case q_gb9 => k_is)
    (case q_gj1 => k_is)
    (case q_gj2 => k_is)
    (case q_gh1 => k_is)
    (case q_gh2 => k_is)
    (case q_gh3 => k_is)
    (case q_gh4 => k_is)
    (case q_gh5 => k_is)
    (case q_gh6 => k_is)
    (case q_gS => k_is)
    (case q_gN => k_is)
    (case q_gO => k_is)
    (case q_gW => k_is)
    (case q_gR => k_is)
    (case q_gT => k_is)
    (case q_gm => k_is)
    (case q_gB => k_is)
    (case q_gA => k_is)
    (case q_gD => k_is)
    (case q_gb1 => k_is)
    (case q_gb5 => k_is)
    (case q_gb6 => k_is)
    (case q_gL => k_is)
    (case q_aDD => k_is)
    (case q_aCJ => k_is)
    (case q_aCM => k_is)
    (case q_aCT => k_is)
    (case q_aCL => k_is)
    (case q_iDI => k_is)
    (case q_iDF => k_is)
    (case q_iCE => k_is)
    (case q_iI => k_is)
    (case q_iX => k_is)
    (case q_iV => k_is)
    (case q_ln => k_is)
    (case q_cn_ => k_is)
    (case q_kn => k_is)
    (case q_lp => k_is)
    (case q_cp_ => k_is)
    (case q_kp => k_is)
    (case q_ll => k_is)
    (case q_cl_ => k_is)
    (case q_kl => k_is)
    (case q_lu => k_is)
    (case q_cu_ => k_is)
    (case q_ku => k_is)
    (case q_le => k_is)
    (case q_ce_ => k_is)
    (case q_ke => k_is)
    (case q_lk => k_is)
    (case q_ck_ => k_is)
    (case q_kk => k_is)
    (case q_lK => k_is)
    (case q_cK_ => k_is)
    (case q_kK => k_is)
    (case q_ls => k_is)
    (case q_cs_ => k_is)
    (case q_ks => k_is)
    (case q_lI => k_is)
    (case q_cI_ => k_is)
    (case q_kI => k_is)
    (case q_lX => k_is)
    (case q_cX_ => k_is)
    (case q_kX => k_is)
    (case q_lV => k_is)
    (case q_cV_ => k_is)
    (case q_kV => k_is)
    (case q_lP => k_is)
    (case q_cP_ => k_is)
    (case q_kP => k_is)
    (case q_lc => k_is)
    (case q_cc_ => k_is)
    (case q_kc => k_is)
    (case q_lg => k_is)
    (case q_cg_ => k_is)
    (case q_kg => k_is)
    (case q_li => k_is)
    (case q_ci_ => k_is)
    (case q_ki => k_is)
    (case q_la0 => k_is)
    (case q_ca0_ => k_is)
    (case q_ka0 => k_is)
    (case q_la1 => k_is)
    (case q_ca1_ => k_is)
    (case q_ka1 => k_is)
    (case q_la2 => k_is)
    (case q_ca2_ => k_is)
    (case q_ka2 => k_is)
    (case q_la3 => k_is)
    (case q_ca3_ => k_is)
    (case q_ka3 => k_is)
    (case q_la4 => k_is)
    (case q_ca4_ => k_is)
    (case q_ka4 => k_is)
    (case q_la5 => k_is)
    (case q_ca5_ => k_is)
    (case q_ka5 => k_is)
    (case q_lE => k_is)
    (case q_cE_ => k_is)
    (case q_kE => k_is)
    (case q_la6 => k_is)
    (case q_ca6_ => k_is)
    (case q_ka6 => k_is)
    (case q_la7 => k_is)
    (case q_ca7_ => k_is)
    (case q_ka7 => k_is)
    (case q_la8 => k_is)
    (case q_ca8_ => k_is)
    (case q_ka8 => k_is)
    (case q_la9 => k_is)
    (case q_ca9_ => k_is)
    (case q_ka9 => k_is)
    (case q_lb8 => k_is)
    (case q_cb8_ => k_is)
    (case q_kb8 => k_is)
    (case q_lb9 => k_is)
    (case q_cb9_ => k_is)
    (case q_kb9 => k_is)
    (case q_lj1 => k_is)
    (case q_cj1_ => k_is)
    (case q_kj1 => k_is)
    (case q_lj2 => k_is)
    (case q_cj2_ => k_is)
    (case q_kj2 => k_is)
    (case q_lh1 => k_is)
    (case q_ch1_ => k_is)
    (case q_kh1 => k_is)
    (case q_lh2 => k_is)
    (case q_ch2_ => k_is)
    (case q_kh2 => k_is)
    (case q_lh3 => k_is)
    (case q_ch3_ => k_is)
    (case q_kh3 => k_is)
    (case q_lh4 => k_is)
    (case q_ch4_ => k_is)
    (case q_kh4 => k_is)
    (case q_lh5 => k_is)
    (case q_ch5_ => k_is)
    (case q_kh5 => k_is)
    (case q_lh6 => k_is)
    (case q_ch6_ => k_is)
    (case q_kh6 => k_is)
    (case q_lS => k_is)
    (case q_cS_ => k_is)
    (case q_kS => k_is)
    (case q_lN => k_is)
    (case q_cN_ => k_is)
    (case q_kN => k_is)
    (case q_lO => k_is)
    (case q_cO_ => k_is)
    (case q_kO => k_is)
    (case q_lW => k_is)
    (case q_cW_ => k_is)
    (case q_kW => k_is)
    (case q_lR => k_is)
    (case q_cR_ => k_is)
    (case q_kR => k_is)
    (case q_lT => k_is)
    (case q_cT_ => k_is)
    (case q_kT => k_is)
    (case q_lm => k_is)
    (case q_cm_ => k_is)
    (case q_km => k_is)
    (case q_lB => k_is)
    (case q_cB_ => k_is)
    (case q_kB => k_is)
    (case q_lA => k_is)
    (case q_cA_ => k_is)
    (case q_kA => k_is)
    (case q_lD => k_is)
    (case q_cD_ => k_is)
    (case q_kD => k_is)
    (case q_lb1 => k_is)
    (case q_cb1_ => k_is)
    (case q_kb1 => k_is)
    (case q_lb5 => k_is)
    (case q_cb5_ => k_is)
    (case q_kb5 => k_is)
    (case q_lb6 => k_is)
    (case q_cb6_ => k_is)
    (case q_kb6 => k_is)
    (case q_lL => k_is)
    (case q_cL_ => k_is)
    (case q_kL => k_is)
    (case q_tb1 => kernel_rfl)
    (case q_tb2 => kernel_rfl)
    (case q_tb3 => kernel_rfl)
    (case q_tb4 => kernel_rfl)
    (case q_tb5 => kernel_rfl)
    (case q_tb6 => kernel_rfl)
    (case q_tb7 => kernel_rfl)
    (case q_tb8 => kernel_rfl)
    (case q_tb9 => kernel_rfl)
    (case q_z_abs => k_is)
    (case q_z_len => k_is)
    (case q_z_range => k_is)
    (case q_z_isinstance => k_is)
    (case q_z_str => k_is)
    (case q_z_tuple => k_is)
    (case q_z_list => k_is)
    (case q_z_all => k_is)
    (case q_z_set => k_is)
    (case q_z_dict => k_is)
    (case q_z_sorted => k_is)
    (case q_z_enumerate => k_is)
    (case q_z_bool => k_is)
    (case q_z_int => k_is)
    (case q_z_max => k_is)
    (case q_z_min => k_is)
    (case q_z_zip => k_is)
