/- Regions whose order is drawn, by what holds of the operations that have come up: one proof an operation serves every order; whatever program, whatever region without guards. No condition but those written in each. -/
import Derived.Test.YtnabnghjejncpaaRows
import Derived.WalkKit
import Derived.WalkSmall
import Derived.BigQuiet
namespace Go.Proofs.Ytnabnghjejncpaa.RegFlow
open Go.RowKit

/-- What is asked of what an operation comes to: a value, in whatever world, that meet Φ. -/
def givesUpon (P : Program) (Φ : Value → World → Prop) : Result Next → Prop
  | .ok (.value v) w' => Φ v w'
  | .ok .skip w' => Φ undef w'
  | .ok (.enter f args) w' => Calls P f args w' fun e w'' => ∃ v, e = .returned v ∧ Φ v w''
  | _ => False
def gives (P : Program) (o : Oper) (r : Operand → Value) (w : World) (Φ : Value → World → Prop) : Prop := givesUpon P Φ ((execOp r o).run P w)

theorem gives_value {P : Program} {o : Oper} {r : Operand → Value} {w w' : World} {v : Value} {Φ : Value → World → Prop} (h : (execOp r o).run P w = .ok (.value v) w') (hΦ : Φ v w') : gives P o r w Φ := by
  unfold gives
  rw [h]
  exact hΦ
theorem gives_skip {P : Program} {o : Oper} {r : Operand → Value} {w w' : World} {Φ : Value → World → Prop} (h : (execOp r o).run P w = .ok .skip w') (hΦ : Φ undef w') : gives P o r w Φ := by
  unfold gives
  rw [h]
  exact hΦ
theorem gives_call {P : Program} {o : Oper} {r : Operand → Value} {w w' : World} {f : FuncId} {args : Array Value} {Φ : Value → World → Prop} {R : Ending → World → Prop} (h : (execOp r o).run P w = .ok (.enter f args) w') (hc : Calls P f args w' R) (hΦ : ∀ e w'', R e w'' → ∃ v, e = .returned v ∧ Φ v w'') : gives P o r w Φ := by
  unfold gives
  rw [h]
  exact hc.mono hΦ

theorem gives_wp {P : Program} {o : Oper} {a : Act} {w : World} {Φ : Value → World → Prop} {K : Act → World → Prop} {Q : Exit → Act → World → Prop} (h : gives P o a.eval w Φ) (hK : ∀ v w', Φ v w' → K (a.put o.dst v) w') : o.wp P a w K Q := by
  unfold gives at h
  unfold Oper.wp
  generalize (execOp a.eval o).run P w = r at h ⊢
  cases r with
  | halt x w' => cases x <;> exact h.elim
  | ok n w' =>
    cases n with
    | value v => exact hK v w' h
    | skip => exact hK undef w' h
    | enter f args =>
      refine Calls.mono h ?_
      rintro e w'' ⟨v, rfl, hv⟩
      exact hK v w'' hv
    | _ => exact h.elim

def setB (l : Nat → Bool) (i : Nat) : Nat → Bool := fun j => if j = i then true else l j
def setV (u : Nat → Value) (i : Nat) (v : Value) : Nat → Value := fun j => if j = i then v else u j

/-- The operation that writes slot t. -/
def dstIdx : List Oper → Nat → Tmp → Option Nat
  | [], _, _ => none
  | o :: l, k, t => if o.dst = some t then some k else dstIdx l (k + 1) t

/-- What an operand holds where the operations that it waits for have come up. -/
def env (a : Act) (l : List Oper) (u : Nat → Value) (x : Operand) : Value :=
  match x with
  | .tmp t => match dstIdx l 0 t with
    | some j => u j
    | none => a.eval x
  | x => a.eval x

/-- The frame behind the region. -/
def fin (u : Nat → Value) : List Oper → Nat → Act → Act
  | [], _, a => a
  | o :: l, k, a => fin u l (k + 1) (a.put o.dst (u k))

theorem dstIdx_spec {t : Tmp} : ∀ {l : List Oper} {k j : Nat}, dstIdx l k t = some j → k ≤ j ∧ ∃ o, l[j - k]? = some o ∧ o.dst = some t := by
  intro l
  induction l with
  | nil => intro k j h; cases h
  | cons o l ih =>
    intro k j h
    unfold dstIdx at h
    split at h
    · rename_i e
      cases h
      exact ⟨Nat.le_refl _, o, by simp, e⟩
    · obtain ⟨h1, o', h2, h3⟩ := ih h
      refine ⟨by omega, o', ?_, h3⟩
      rw [show j - k = (j - (k + 1)) + 1 by omega]
      exact h2

/-- Each operation writes a slot of its own; it waits, by edges to the front, for those whose slots it looks at; no guard; no select. -/
def flowB (l : List Oper) : Bool :=
  (List.range l.length).all fun k => match l[k]? with
    | none => false
    | some o => o.guard.isNone && (match o.op with | .select _ _ => false | _ => true) &&
      (match o.dst with | none => true | some t => dstIdx l 0 t == some k) &&
      o.after.all (fun e => !Region.binds .any e || decide (e.on < k)) &&
      o.op.operands.all (fun x => match x with
        | .tmp t => match dstIdx l 0 t with
          | none => true
          | some j => o.after.any fun e => Region.binds .any e && e.on == j
        | _ => true)

structure FlowAt (l : List Oper) (k : Nat) (o : Oper) : Prop where
  guard : o.guard = none
  select : ∀ cs b, o.op ≠ .select cs b
  own : ∀ t, o.dst = some t → dstIdx l 0 t = some k
  front : ∀ e ∈ o.after, Region.binds .any e = true → e.on < k
  looks : ∀ t, .tmp t ∈ o.op.operands → ∀ j, dstIdx l 0 t = some j → ∃ e ∈ o.after, Region.binds .any e = true ∧ e.on = j

theorem flow_at {l : List Oper} (h : flowB l = true) {k : Nat} {o : Oper} (hk : l[k]? = some o) : FlowAt l k o := by
  have hlt : k < l.length := (List.getElem?_eq_some_iff.1 hk).1
  have h1 := List.all_eq_true.1 h k (List.mem_range.2 hlt)
  rw [hk] at h1
  simp only [Bool.and_eq_true] at h1
  obtain ⟨⟨⟨⟨g, s⟩, d⟩, f⟩, x⟩ := h1
  refine ⟨by simpa using g, fun cs b e => (by rw [e] at s; cases s), fun t e => (by rw [e] at d; simpa using d), fun e he hb => ?_, fun t ht j hj => ?_⟩
  · have := Array.all_eq_true'.1 f e he
    simpa [hb] using this
  · have := Array.all_eq_true'.1 x _ ht
    simp only [hj] at this
    obtain ⟨e, he, hb⟩ := Array.any_eq_true'.1 this
    simp only [Bool.and_eq_true, beq_iff_eq] at hb
    exact ⟨e, he, hb.1, hb.2⟩

/-- The operations that this one waits for. -/
def preds (o : Oper) : List Nat := o.after.toList.filterMap fun e => if Region.binds .any e then some e.on else none

/-- Whoever has come up has come up behind those that it waits for. -/
def Closed (l : List Oper) (b : Nat → Bool) : Prop := ∀ (i : Nat) (o : Oper), l[i]? = some o → b i = true → (preds o).all b = true
theorem Closed.no {l : List Oper} {b : Nat → Bool} (h : Closed l b) {i k : Nat} {o : Oper} (hi : l[i]? = some o) (hk : (preds o).contains k = true) (hb : b k = false) : b i = false := by
  cases e : b i with
  | false => rfl
  | true =>
    have h1 := List.all_eq_true.1 (h i o hi e) k (by simpa using hk)
    rw [hb] at h1
    cases h1

/-- What is asked of each operation: where it may come up, it hands the invariant on. -/
def Steps (P : Program) (a : Act) (l : List Oper) (Inv : (Nat → Bool) → (Nat → Value) → World → Prop) : List Oper → Nat → Prop
  | [], _ => True
  | o :: r, k => (∀ b u w ρ, Inv b u w → Closed l b → (preds o).all b = true → b k = false → (∀ x ∈ o.op.operands, ρ x = env a l u x) → gives P o ρ w (fun v w' => Inv (setB b k) (setV u k v) w')) ∧ Steps P a l Inv r (k + 1)

theorem steps_at {P : Program} {a : Act} {l : List Oper} {Inv : (Nat → Bool) → (Nat → Value) → World → Prop} : ∀ {r : List Oper} {k : Nat}, Steps P a l Inv r k → ∀ {i : Nat} {o : Oper}, r[i]? = some o →
    ∀ b u w ρ, Inv b u w → Closed l b → (preds o).all b = true → b (k + i) = false → (∀ x ∈ o.op.operands, ρ x = env a l u x) → gives P o ρ w (fun v w' => Inv (setB b (k + i)) (setV u (k + i) v) w') := by
  intro r
  induction r with
  | nil => intro k _ i o h; simp at h
  | cons o r ih =>
    intro k h i o' hi
    cases i with
    | zero =>
      simp at hi
      subst hi
      exact h.1
    | succ i =>
      have := ih h.2 (i := i) (o := o') (by simpa using hi)
      rw [show k + 1 + i = k + (i + 1) by omega] at this
      exact this

/-- The frame where these operations have come up. -/
structure Slots (a0 : Act) (l : List Oper) (b : Nat → Bool) (u : Nat → Value) (a : Act) : Prop where
  defers : a.defers = a0.defers
  size : a.tmps.size = a0.tmps.size
  slot : ∀ t, a.tmps[t]? = match dstIdx l 0 t with
    | some j => if b j then some (u j) else a0.tmps[t]?
    | none => a0.tmps[t]?

theorem slots_put {a0 a : Act} {l : List Oper} {b : Nat → Bool} {u : Nat → Value} {k : Nat} {o : Oper} {v : Value} (h : Slots a0 l b u a) (hk : l[k]? = some o) (hf : FlowAt l k o) (hsz : ∀ t, o.dst = some t → t < a0.tmps.size) : Slots a0 l (setB b k) (setV u k v) (a.put o.dst v) := by
  cases hd : o.dst with
  | none =>
    refine ⟨h.defers, h.size, fun t => ?_⟩
    show a.tmps[t]? = _
    rw [h.slot t]
    cases hi : dstIdx l 0 t with
    | none => rfl
    | some j =>
      have hne : j ≠ k := fun e => by
        subst e
        obtain ⟨_, o', h1, h2⟩ := dstIdx_spec hi
        rw [Nat.sub_zero, hk] at h1
        cases h1
        rw [hd] at h2
        cases h2
      simp [setB, setV, hne]
  | some d =>
    have hown := hf.own d hd
    refine ⟨h.defers, by simpa [Act.put] using h.size, fun t => ?_⟩
    show (a.tmps.setIfInBounds d v)[t]? = _
    by_cases e : d = t
    · subst e
      rw [hown, Array.getElem?_setIfInBounds_self_of_lt (by rw [h.size]; exact hsz d hd)]
      simp [setB, setV]
    · rw [Array.getElem?_setIfInBounds_ne e, h.slot t]
      cases hi : dstIdx l 0 t with
      | none => rfl
      | some j =>
        have hne : j ≠ k := fun e2 => by
          subst e2
          obtain ⟨_, o', h1, h2⟩ := dstIdx_spec hi
          rw [Nat.sub_zero, hk] at h1
          cases h1
          rw [hd] at h2
          exact e (Option.some.inj h2)
        simp [setB, setV, hne]

theorem slots_eval {a0 a : Act} {l : List Oper} {b : Nat → Bool} {u : Nat → Value} {k : Nat} {o : Oper} (h : Slots a0 l b u a) (hf : FlowAt l k o) (hp : ∀ e ∈ o.after, Region.binds .any e = true → b e.on = true) : ∀ x ∈ o.op.operands, a.eval x = env a0 l u x := by
  intro x hx
  cases x with
  | tmp t =>
    have hs := h.slot t
    unfold env
    cases hi : dstIdx l 0 t with
    | none =>
      rw [hi] at hs
      simp only [hi, Act.eval, Array.getD_eq_getD_getElem?]
      rw [hs]
    | some j =>
      obtain ⟨e, he, hb, hon⟩ := hf.looks t hx j hi
      have hj : b j = true := by rw [← hon]; exact hp e he hb
      rw [hi] at hs
      simp only [hj, if_true] at hs
      simp only [hi, Act.eval, Array.getD_eq_getD_getElem?]
      rw [hs]
      rfl
  | _ => rfl

/-- The frame behind all of them. -/
theorem fin_slots {u : Nat → Value} : ∀ (r : List Oper) (k : Nat) (l : List Oper) (a0 a : Act) (b : Nat → Bool), (∀ i, r[i]? = l[k + i]?) → (∀ (i : Nat) (o : Oper), l[i]? = some o → FlowAt l i o) → (∀ (i : Nat) (o : Oper) (t : Tmp), l[i]? = some o → o.dst = some t → t < a0.tmps.size) →
    Slots a0 l b u a → Slots a0 l (fun i => b i || (decide (k ≤ i) && decide (i < k + r.length))) u (fin u r k a) := by
  intro r
  induction r with
  | nil =>
    intro k l a0 a b _ _ _ h
    have e : (fun i => b i || (decide (k ≤ i) && decide (i < k + ([] : List Oper).length))) = b := by
      funext i
      have : (decide (k ≤ i) && decide (i < k + ([] : List Oper).length)) = false := by simp
      rw [this, Bool.or_false]
    rw [e]
    exact h
  | cons o r ih =>
    intro k l a0 a b hr hf hsz h
    have hk : l[k]? = some o := by have := hr 0; simpa using this.symm
    have h1 : Slots a0 l (setB b k) u (a.put o.dst (u k)) := by
      have h2 := slots_put (v := u k) h hk (hf k o hk) (fun t ht => hsz k o t hk ht)
      have e : setV u k (u k) = u := by funext j; unfold setV; split <;> simp_all
      rw [e] at h2
      exact h2
    have h3 := ih (k + 1) l a0 (a.put o.dst (u k)) (setB b k) (fun i => by have := hr (i + 1); rw [show k + 1 + i = k + (i + 1) by omega]; simpa using this) hf hsz h1
    have e : (fun i => setB b k i || (decide (k + 1 ≤ i) && decide (i < k + 1 + r.length))) = fun i => b i || (decide (k ≤ i) && decide (i < k + (o :: r).length)) := by
      funext i
      unfold setB
      by_cases e : i = k
      · subst e
        simp
      · rw [if_neg e]
        congr 1
        rw [Bool.eq_iff_iff]
        simp
        omega
    rw [e] at h3
    exact h3

theorem slots_unique {a0 a a' : Act} {l : List Oper} {b : Nat → Bool} {u : Nat → Value} (h : Slots a0 l b u a) (h' : Slots a0 l b u a') : a = a' := by
  obtain ⟨t, d⟩ := a
  obtain ⟨t', d'⟩ := a'
  have e1 : d = d' := h.defers.trans h'.defers.symm
  have e2 : t = t' := by
    apply Array.ext_getElem?
    intro i
    exact (h.slot i).trans (h'.slot i).symm
  rw [e1, e2]

theorem count_set {p p' : Nat → Bool} {i : Nat} (h1 : p i = true) (h2 : p' i = false) (h3 : ∀ j, j ≠ i → p' j = p j) : ∀ n, i < n → (List.range n).countP p' + 1 = (List.range n).countP p := by
  have same : ∀ n, n ≤ i → (List.range n).countP p' = (List.range n).countP p := by
    intro n
    induction n with
    | zero => intro _; rfl
    | succ n ih =>
      intro hn
      rw [List.range_succ, List.countP_append, List.countP_append, ih (by omega), List.countP_singleton, List.countP_singleton, h3 n (by omega)]
  intro n
  induction n with
  | zero => intro h; omega
  | succ n ih =>
    intro hn
    rw [List.range_succ, List.countP_append, List.countP_append, List.countP_singleton, List.countP_singleton]
    by_cases e : i = n
    · subst e
      rw [same i (Nat.le_refl _), h1, h2]
      simp
    · rw [h3 n (fun h => e h.symm)]
      have := ih (by omega)
      omega

/-- ONE PROOF AN OPERATION SERVES EVERY ORDER. -/
theorem wp_region_flow {P : Program} {id : Nat} {Q : Exit → Act → World → Prop} {a : Act} {w : World} {l : List Oper} (Inv : (Nat → Bool) → (Nat → Value) → World → Prop) (hm : P.follows .mixedOrders = true) (hB : flowB l = true) (hsz : (l.all fun o => match o.dst with | none => true | some t => decide (t < a.tmps.size)) = true)
    (h0 : Inv (fun _ => false) (fun _ => undef) w.drew) (hs : Steps P a l Inv l 0) (he : ∀ u w', Inv (fun i => decide (i < l.length)) u w' → Q .normal (fin u l 0 a) w') : (Code.region id l.toArray true).wp P Q a w := by
  have hF : ∀ (i : Nat) (o : Oper), l[i]? = some o → FlowAt l i o := fun i o h => flow_at hB h
  have hS : ∀ (i : Nat) (o : Oper) (t : Tmp), l[i]? = some o → o.dst = some t → t < a.tmps.size := fun i o t h ht => by
    have := List.all_eq_true.1 hsz o (List.mem_of_getElem? h)
    rw [ht] at this
    simpa using this
  have main : ∀ (fuel : Nat) (listed : Array Bool) (a' : Act) (w' : World) (u : Nat → Value), listed.size = l.length → (List.range l.length).countP (fun i => !listed.getD i false) ≤ fuel →
      Slots a l (fun i => listed.getD i false) u a' → Closed l (fun i => listed.getD i false) → Inv (fun i => listed.getD i false) u w' → wpAny P .any l.toArray Q fuel listed a' w' := by
    have over : ∀ (listed : Array Bool) (a' : Act) (w' : World) (u : Nat → Value), listed.size = l.length → Region.ready .any l.toArray listed = [] → Slots a l (fun i => listed.getD i false) u a' → Inv (fun i => listed.getD i false) u w' → Q .normal a' w' := by
      intro listed a' w' u hn hr hsl hi
      have hall : ∀ k, k < l.length → listed.getD k false = true := by
        intro k
        induction k using Nat.strongRecOn with
        | _ k ih =>
          intro hk
          cases hg : listed.getD k false with
          | true => rfl
          | false =>
            have hmem : k ∈ Region.ready .any l.toArray listed := by
              refine mem_ready.2 ⟨?_, l[k], by simp [hk], fun e he hb => ?_⟩
              · simp [hn, hk] at hg ⊢
                exact hg
              · have hlt := (hF k l[k] (by simp [hk])).front e he hb
                exact ih e.on hlt (by omega)
            rw [hr] at hmem
            cases hmem
      have e : (fun i => listed.getD i false) = fun i => decide (i < l.length) := by
        funext i
        by_cases hi : i < l.length
        · rw [hall i hi]; simp [hi]
        · rw [decide_eq_false hi]
          simp [Array.getElem?_eq_none (show listed.size ≤ i by omega)]
      rw [e] at hi hsl
      have hfin := fin_slots (u := u) l 0 l a a (fun _ => false) (fun i => by simp) hF hS ⟨rfl, rfl, fun t => by cases dstIdx l 0 t <;> rfl⟩
      have e2 : (fun i => false || (decide (0 ≤ i) && decide (i < 0 + l.length))) = fun i => decide (i < l.length) := by funext i; simp
      rw [e2] at hfin
      rw [slots_unique hsl hfin]
      exact he u w' hi
    intro fuel
    induction fuel with
    | zero =>
      intro listed a' w' u hn hc hsl hcl hi
      have hr : Region.ready .any l.toArray listed = [] := by
        rw [List.eq_nil_iff_forall_not_mem]
        intro i hmem
        obtain ⟨h1, o, h2, _⟩ := mem_ready.1 hmem
        have hlt : i < l.length := by simpa using (Array.getElem?_eq_some_iff.1 h2).1
        have h3 := List.countP_eq_zero.1 (Nat.le_zero.1 hc) i (List.mem_range.2 hlt)
        simp [hn, hlt] at h1 h3
        rw [h1] at h3
        cases h3
      exact ⟨hr, over listed a' w' u hn hr hsl hi⟩
    | succ fuel ih =>
      intro listed a' w' u hn hc hsl hcl hi
      refine ⟨fun hr => over listed a' w' u hn hr hsl hi, fun i hmem => ?_⟩
      obtain ⟨h1, o, h2, h3⟩ := mem_ready.1 hmem
      have hlt : i < l.length := by simpa using (Array.getElem?_eq_some_iff.1 h2).1
      have hlo : l[i]? = some o := by simpa using h2
      have hfl := hF i o hlo
      have hun : listed.getD i false = false := by simp [hn, hlt] at h1 ⊢; exact h1
      have hpr : (preds o).all (fun i => listed.getD i false) = true := by
          rw [List.all_eq_true]
          intro j hj
          unfold preds at hj
          rw [List.mem_filterMap] at hj
          obtain ⟨e, he, hj2⟩ := hj
          by_cases hb : Region.binds .any e = true
          · rw [if_pos hb] at hj2
            cases hj2
            exact h3 e (by simpa using he) hb
          · rw [if_neg hb] at hj2
            cases hj2
      have hg := steps_at hs hlo (fun i => listed.getD i false) u w' a'.eval hi hcl hpr (by rw [Nat.zero_add]; exact hun) (slots_eval hsl hfl h3)
      rw [Nat.zero_add] at hg
      have hset : (fun j => (listed.setIfInBounds i true).getD j false) = setB (fun j => listed.getD j false) i := by
        funext j
        unfold setB
        by_cases e : j = i
        · subst e
          simp [hn, hlt]
        · rw [if_neg e, getD_set_ne false (fun h => e h.symm)]
      unfold wpOp
      rw [h2]
      have hw : Region.wanted o (yielded l.toArray a'.tmps) = true := by unfold Region.wanted; rw [hfl.guard]
      simp only [hw, if_true]
      refine Or.inl (gives_wp hg fun v w'' hv => ?_)
      refine ih _ _ _ (setV u i v) (by simpa using hn) ?_ (by rw [hset]; exact slots_put hsl hlo hfl (fun t ht => hS i o t hlo ht)) ?_ (by rw [hset]; exact hv)
      case refine_2 =>
        rw [hset]
        intro j oj hj hbj
        have hmono : ∀ m, listed.getD m false = true → setB (fun j => listed.getD j false) i m = true := fun m hm => by unfold setB; split <;> simp_all
        unfold setB at hbj
        by_cases e : j = i
        · subst e
          rw [hlo] at hj
          cases hj
          rw [List.all_eq_true] at hpr ⊢
          exact fun m hm => hmono m (hpr m hm)
        · rw [if_neg e] at hbj
          have h9 := hcl j oj hj hbj
          rw [List.all_eq_true] at h9 ⊢
          exact fun m hm => hmono m (h9 m hm)
      have hcs := count_set (p := fun j => !listed.getD j false) (p' := fun j => !(listed.setIfInBounds i true).getD j false) (i := i) (by simp [hun]) (by rw [show (listed.setIfInBounds i true).getD i false = _ from congrFun hset i]; simp [setB]) (fun j hj => by rw [show (listed.setIfInBounds i true).getD j false = _ from congrFun hset j]; simp [setB, hj]) l.length hlt
      omega
  refine wp_region_any hm ?_
  have := main l.toArray.size (Array.replicate l.toArray.size false) a w.drew (fun _ => undef) (by simp) (by simpa using List.countP_le_length (p := fun i => !(Array.replicate l.toArray.size false).getD i false) (l := List.range l.length))
  have hz : (fun i => (Array.replicate l.toArray.size false).getD i false) = fun _ => false := by funext i; simp [Array.getElem?_replicate]; split <;> rfl
  rw [hz] at this
  exact this ⟨rfl, rfl, fun t => by cases dstIdx l 0 t <;> rfl⟩ (fun i o _ h => by cases h) h0
end Go.Proofs.Ytnabnghjejncpaa.RegFlow
